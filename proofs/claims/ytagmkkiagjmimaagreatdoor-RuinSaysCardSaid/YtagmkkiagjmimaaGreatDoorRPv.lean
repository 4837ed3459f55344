/- Decimal digits and the number that they  -/
import Derived.Shelf.Strings.Prefix
import Derived.Test.YtagmkkiagjmimaaGreatDoorProg
import Derived.Deep.RegionHeld
import Derived.Test.YtagmkkiagjmimaaGreatDoorRN12f
namespace Go.Proofs.YtagmkkiagjmimaaGreatDoor
open Go.Proofs.Tryz
open Go.RowKit
set_option maxHeartbeats 4000000
set_option maxRecDepth 100000
def zaj (ds:List UInt8):Prop:=∀ d ∈ ds,48≤d.toNat∧d.toNat≤57
def jo (ds:List UInt8):Nat:=ds.foldl (fun n d=>n*10+(d.toNat-48)) 0
theorem qea (ds:List UInt8):∀ n:Nat,ds.foldl (fun n d=>n*10+(d.toNat-48)) n=n*10^ds.length+jo ds:=by(
induction ds with
| nil=>intro n;simp[jo]
| cons d ds ih =>
 intro n
 unfold jo
 rw[List.foldl_cons,List.foldl_cons,ih,ih (0*10+(d.toNat-48)),List.length_cons,Nat.pow_succ]
 generalize 10^ds.length=P
 generalize jo ds=D
 grind)
theorem zbb (xs ys:List UInt8):jo (xs++ys)=jo xs*10^ys.length+jo ys:=by(
show (xs++ys).foldl (fun n d=>n*10+(d.toNat-48)) 0=_
rw[List.foldl_append,qea]
rfl)
theorem zqc (xs:List UInt8) (d:UInt8):jo (xs++[d])=jo xs*10+(d.toNat-48):=by
 rw[zbb]
 simp[jo]
theorem qeb (d:UInt8) (ds:List UInt8):jo (d::ds)=(d.toNat-48)*10^ds.length+jo ds:=by(
have h:=zbb [d] ds
rw[List.singleton_append] at h
rw[h]
simp[jo])
theorem zlu:∀ {ds:List UInt8},zaj ds→jo ds<10^ds.length
 | [],_=>by simp[jo]
 | d::ds,h=>by
  have h1:=zlu (ds:=ds) (fun x hx=>h x (by simp[hx]))
  have h2:=h d (by simp)
  have h3:(d.toNat-48)*10^ds.length≤9*10^ds.length:=Nat.mul_le_mul_right _ (by omega)
  rw[qeb,List.length_cons,Nat.pow_succ]
  omega
theorem zwd (k:Nat) (h:k<10):(UInt8.ofNat (48+k)).toNat=48+k:=UInt8.toNat_ofNat_of_lt' (by simp[UInt8.size];omega)
theorem znw (n:Nat):zaj (Lib.decDigits n)∧jo (Lib.decDigits n)=n∧0<(Lib.decDigits n).length:=by(
induction n using Nat.strongRecOn with
| _ n ih =>
 rw[Lib.decDigits]
 by_cases h10:n<10
 ·rw[dif_pos h10]
  have e:=zwd n h10
  refine⟨fun d hd=>?_,?_,by simp⟩
  ·rw[List.mem_singleton] at hd
   rw[hd,e]
   omega
  ·show 0*10+((UInt8.ofNat (48+n)).toNat-48)=n
   rw[e]
   omega
 ·rw[dif_neg h10]
  obtain⟨h1,h2,h3⟩:=ih (n/10) (Nat.div_lt_self (by omega) (by omega))
  have e:=zwd (n%10) (Nat.mod_lt _ (by omega))
  refine⟨fun d hd=>?_,?_,by simp⟩
  ·rcases List.mem_append.1 hd with hd | hd
   ·exact h1 d hd
   ·rw[List.mem_singleton] at hd
    rw[hd,e]
    omega
  ·rw[zqc,h2,e]
   omega)
theorem qbg {es:List UInt8} {j:Nat} (hd:zaj es) (hj:j<es.length):jo (es.take (j+1))=jo (es.take j)*10+((es[j]?.getD 0).toNat-48)∧jo (es.take j)<10^j∧48≤(es[j]?.getD 0).toNat∧(es[j]?.getD 0).toNat≤57:=by(
have h1:es.take (j+1)=es.take j++[es[j]?.getD 0]:=by
 rw[List.getElem?_eq_getElem hj,Option.getD_some,List.take_succ_eq_append_getElem hj]
have h2:=zlu (ds:=es.take j) (fun x hx=>hd x (List.mem_of_mem_take hx))
rw[List.length_take,Nat.min_eq_left (by omega)] at h2
have h3:=hd (es[j]?.getD 0) (by rw[List.getElem?_eq_getElem hj,Option.getD_some];exact List.getElem_mem hj)
exact⟨by rw[h1,zqc],h2,h3.1,h3.2⟩)
theorem byte_at {t:ByteArray} {es:List UInt8} (ht:t.data.toList=es) (j:Nat) (hj:j<es.length) (T:TypeId) (hT:prog.underlying T=some .string) (w:World):(Instr.index T (.string t) (.int .i64 (j:Int))).run prog w=.ok (.int .u8 (((es[j]?.getD 0).toNat:Nat):Int)) w:=by(
subst ht
have hs:j<t.size:=by simpa using hj
rw[run_index_string w T t .i64 (j:Int) hT,dif_pos ⟨by omega,by omega⟩]
have e:(t[((j:Int)).toNat]'(by simpa using hs))=t.data.toList[j]?.getD 0:=by
 rw[List.getElem?_eq_getElem hj,Option.getD_some]
 simp
 rfl
simp only[e])
theorem extract_drop (t:ByteArray) (j:Nat):(t.extract j t.size).data.toList=t.data.toList.drop j:=by(
rw[ByteArray.data_extract,Array.toList_extract,List.extract_eq_take_drop,List.take_of_length_le]
rw[List.length_drop]
simp)
structure qlw (w:World) (ds:List UInt8) (k:Nat) (t:ByteArray) (vo:Value) (wr:World):Prop where
 left:t.data.toList=ds.drop k
 le:k≤ds.length
 num:Sl .u64 wr vo (wd 18446744073709551616 (jo (ds.take k)))
 but:But [] w wr
theorem zve (t:ByteArray) (ds:List UInt8) (w:World) (ht:t.data.toList=ds) (hd:zaj ds) (hl:ds.length<1000000) :
  Calls prog 259 #[.string t] w fun e w'=>∃ v',e=.returned v'∧Sl .u64 w' v' (wd 18446744073709551616 (jo ds))∧But [] w w':=by(
have HD:=af hd
have HT:=af ht
clear hd ht
go_enter func259,ntmps259
go_wp2
go_loopg [0,3] ds.length (fun m s o wr=>∃ (t:ByteArray),s=.string t∧Hid (qlw w ds (ds.length-m) t o wr)∧m≤ds.length∧t.size=m)
case atStart=>exact⟨t,rfl,⟨by rw[Nat.sub_self,List.drop_zero];exact ae HT,by omega,by rw[Nat.sub_self,List.take_zero];exact zh 18446744073709551616 ▸ Sl.nil _ _,But.refl _ _⟩,Nat.le_refl _,by rw[← ae HT];simp⟩
case round =>(
obtain⟨t,rfl,HI,hm,hsz⟩:=hrel
rename World=>wr
have hs:((t.size:Nat):Int)=(gk:Int):=by omega
by_cases hm0:gk=0
·(
subst hm0
have hfin:Hid (Sl .u64 wr u3 (wd 18446744073709551616 (jo ds))∧But [] w wr):=by
 have h:=ae HI
 have h1:=h.num
 rw[Nat.sub_zero,List.take_length] at h1
 exact⟨h1,h.but⟩
clear HI
go_wp2
go_ret
exact⟨_,rfl,(ae hfin).1,(ae hfin).2⟩)
·(
obtain⟨c,hc⟩:∃ c,c=min gk 19:=⟨_,rfl⟩
have hc1:0<c:=by omega
have hc2:c≤19:=by omega
have hc3:c≤gk:=by omega
have hmin:min (gk:Int) 19=(c:Int):=by omega
clear hc
have hes:Hid (t.data.toList=ds.drop (ds.length-gk)):=(ae HI).left
have hel:(ds.drop (ds.length-gk)).length=gk:=by rw[List.length_drop];omega
have hed:zaj (ds.drop (ds.length-gk)):=fun d h=>ae HD d (List.mem_of_mem_drop h)
obtain⟨es,hese⟩:∃ es,es=ds.drop (ds.length-gk):=⟨_,rfl⟩
rw[← hese] at hes hel hed
have HEE:=af hese
have HED:=af hed
clear hese hed
go_wp2_with fail
go_loopw [5,6,15] (fun a b i wq=>∃ j x P:Nat,j≤c∧i=.int .i64 j∧a=.int .u64 x∧b=.int .u64 P∧x<10000000000000000000∧P≤10000000000000000000∧Hid (x=jo (es.take j)∧P=10^j)∧wq=wr) (fun _ _ i _=>c-(intOf i).toNat)
case atStart=>exact⟨0,0,1,by omega,rfl,rfl,rfl,by omega,by omega,⟨by simp[jo],by simp⟩,rfl⟩
case round =>(
obtain⟨j,x,P,hj,rfl,rfl,rfl,hx,hP,HJ,rfl⟩:=hrel
by_cases hjc:j<c
·(
obtain⟨d1,d2,d3,d4⟩:=qbg (ae HED) (by omega:j<es.length)
have hb:=fun W=>byte_at (ae hes) j (by omega) 9 underlying9 W
rw[← (ae HJ).1] at d1 d2
have hp18:10^j≤10^18:=Nat.pow_le_pow_right (by omega) (by omega)
have hpp:Hid (P*10=10^(j+1)):=by show _=_;rw[(ae HJ).2,Nat.pow_succ]
have hP2:P≤1000000000000000000:=by rw[(ae HJ).2];exact hp18
have hx2:x<1000000000000000000:=Nat.lt_of_lt_of_le d2 hp18
generalize (es[j]?.getD 0).toNat=d at *
obtain⟨d',rfl⟩:∃ d',d=48+d':=⟨d-48,by omega⟩
have HD1:Hid (jo (es.take (j+1))=x*10+d'):=by show _=_;rw[d1];omega
have hd9:d'≤9:=by omega
have e1:IntKind.u8.wrap (((48+d':Nat):Int)-48)=(d':Int):=by rw[IntKind.wrap_u8];omega
have e2:IntKind.u64.wrap ((x:Int)*10)=((x*10:Nat):Int):=by rw[IntKind.wrap_u64];omega
have e3:IntKind.u64.wrap (((x*10:Nat):Int)+(d':Int))=((x*10+d':Nat):Int):=by rw[IntKind.wrap_u64];omega
have e4:IntKind.u64.wrap ((P:Int)*10)=((P*10:Nat):Int):=by rw[IntKind.wrap_u64];omega
clear d1 d2 d3 d4 hp18
go_wp2
refine⟨⟨j+1,x*10+d',P*10,by omega,by go_num,by go_num,by go_num,by omega,by omega,⟨(ae HD1).symm,ae hpp⟩,trivial⟩,?_⟩
simp[intOf];omega)
·(
have hjc':j=c:=by omega
subst hjc'
have hI:=ae HI
have hnew:jo (ds.take (ds.length-gk))*P+x=jo (ds.take (ds.length-(gk-j))):=by
 have e:ds.take (ds.length-(gk-j))=ds.take (ds.length-gk)++es.take j:=by
  rw[ae HEE,show ds.length-(gk-j)=(ds.length-gk)+j from by omega,List.take_add]
 rw[e,zbb,List.length_take,Nat.min_eq_left (by omega),← (ae HJ).1,← (ae HJ).2]
have hlen:(wd 18446744073709551616 (jo (ds.take (ds.length-gk)))).length<1000000:=by
 have h1:=zlu (ds:=ds.take (ds.length-gk)) (fun x hx=>ae HD x (List.mem_of_mem_take hx))
 refine Nat.lt_of_le_of_lt (aj (B:=18446744073709551616) (by omega) _ (ds.take (ds.length-gk)).length (Nat.lt_of_lt_of_le h1 (Nat.pow_le_pow_left (by omega) _))) ?_
 rw[List.length_take]
 omega
have hwl:∀ n,n < 18446744073709551616→(wd 18446744073709551616 n).length≤1:=fun n hn=>aj (by omega) _ _ (by rw[Nat.pow_one];exact hn)
have hl1:=hwl P (by omega)
have hl2:=hwl x (by omega)
have hl3:=qy (jo (ds.take (ds.length-gk))) P
have MU:=af (fun (W:World) (v:Value) (hb:But [] wr W) (h:Sl .u64 W v (wd 18446744073709551616 P))=>jd u3 v _ _ W (hI.num.ah hb) h (by omega))
have AD:=af (fun (W:World) (v v2:Value) (h:Sl .u64 W v (wd 18446744073709551616 (jo (ds.take (ds.length-gk))*P))) (h2:Sl .u64 W v2 (wd 18446744073709551616 x))=>o8 v v2 _ _ W h h2 (by omega) (by omega))
rw[hnew] at AD
have HBW:=af hI.but
have hex:t.extract j t.size=t.extract j t.size:=rfl
have hleft:Hid ((t.extract j t.size).data.toList=ds.drop (ds.length-(gk-j))):=by
 show _=_
 have h1:=ae hes
 rw[show ds.length-(gk-j)=(ds.length-gk)+j from by omega,← List.drop_drop,← ae HEE,← h1]
 exact extract_drop t j
have hsz2:(t.extract j t.size).size=gk-j:=by simp[hsz]
rw[hsz] at hleft hsz2
clear hI hnew hlen hwl hl1 hl2 hl3 hex
obtain⟨oa,oc,hoe⟩:∃ a c,u3=.slice a (wd 18446744073709551616 (jo (ds.take (ds.length-gk)))).length c:=by obtain⟨a,c,e,-,-⟩:=(ae HI).num;exact⟨a,c,e⟩
clear HI
subst hoe
generalize (wd 18446744073709551616 (jo (ds.take (ds.length-gk)))).length=on at *
go_wp2_with fail
refine (ji P (by omega) _).mono ?_
rintro e w1 ⟨v1,rfl,hv1,hb1,-⟩
have H1:=af hv1
have B1:=af hb1
clear hv1 hb1
go_wp2_with fail
refine (ae MU _ v1 (ae B1) (ae H1)).mono ?_
rintro e w2 ⟨v2,rfl,hv2,hb2,-⟩
have H2:=af hv2
have B2:Hid (But [] w w2):=((ae HBW).trans' (ae B1)).trans' hb2
clear hv2 hb2
go_wp2_with fail
refine (ji x (by omega) _).mono ?_
rintro e w3 ⟨v3,rfl,hv3,hb3,-⟩
have H3:=af hv3
have H2':=af ((ae H2).ah hb3)
have B3:Hid (But [] w w3):=(ae B2).trans' hb3
clear hv3 hb3
go_wp2_with fail
refine (ae AD _ v2 v3 (ae H2') (ae H3)).mono ?_
rintro e w4 ⟨v4,rfl,hv4,hb4⟩
have H4:=af hv4
have B4:Hid (But [] w w4):=(ae B3).trans' hb4
clear hv4 hb4
go_wp2
go_roundg (gk-j)
case measure=>omega
case rel=>exact⟨_,rfl,⟨ae hleft,by omega,ae H4,ae B4⟩,by omega,hsz2⟩)))))
theorem zgt (t:ByteArray) (bs ds es:List UInt8) (k:Nat) (w:World) (ht:t.data.toList=bs) (hk:bs.drop k=ds++es) (hkl:k≤bs.length) (hd:zaj ds) (he:∀ e,es.head? = some e→e.toNat<48∨57<e.toNat) (hl:bs.length<1000000) (r:Int) (hr:Hid (r=((k+ds.length:Nat):Int))) :
  Calls prog 258 #[.string t,.int .i64 (k:Int)] w fun e w'=>e=.returned (.int .i64 r)∧w'=w:=by(
have hlen:bs.length=k+ds.length+es.length:=by
 have:=congrArg List.length hk
 rw[List.length_drop,List.length_append] at this
 omega
have hsz:t.size=k+ds.length+es.length:=by rw[← hlen,← ht];simp
have hs:((t.size:Nat):Int)=((k+ds.length+es.length:Nat):Int):=by rw[hsz]
have hat:∀ j,(bs[k+j]?.getD 0)=((ds++es)[j]?.getD 0):=fun j=>by rw[← hk,List.getElem?_drop]
have HAT:=af hat
have HT:=af ht
have HD:=af hd
have HE:=af he
clear hat hk hd he ht hkl
go_enter func258,ntmps258
go_wp2
obtain⟨m,hm⟩:∃ m,m=k+ds.length:=⟨_,rfl⟩
have hsm:t.size=m+es.length:=by omega
rw[← hm] at hr
have hkm:k≤m:=by omega
have hbl:bs.length=m+es.length:=by omega
have hdl:ds.length=m-k:=by omega
clear hsz hs hlen
go_loopw [1] (fun a wq=>∃ i:Nat,k≤i∧i≤m∧a=.int .i64 (i:Int)∧wq=w) (fun a _=>m-(intOf a).toNat)
case atStart=>exact⟨k,by omega,by omega,rfl,rfl⟩
case round =>(
obtain⟨i,hki,him,rfl,rfl⟩:=hrel
have hA:(bs[i]?.getD 0)=((ds++es)[i-k]?.getD 0):=by have:=ae HAT (i-k);rw[show k+(i-k)=i from by omega] at this;exact this
by_cases hjd:i<m
·(
have hb:=fun W=>byte_at (ae HT) i (by omega) 9 underlying9 W
rw[hA,List.getElem?_append_left (by omega)] at hb
have hdd:=ae HD (ds[i-k]?.getD 0) (by rw[List.getElem?_eq_getElem (by omega),Option.getD_some];exact List.getElem_mem _)
generalize (ds[i-k]?.getD 0).toNat=d at *
have l1:(i:Int)<(t.size:Int):=by omega
have c1:decide (48≤(d:Int))=true:=decide_eq_true (by omega)
have c2:decide ((d:Int)≤57)=true:=decide_eq_true (by omega)
have l2:decide ((i:Int)<(t.size:Int))=true:=decide_eq_true l1
have i0:(0:Int)≤(i:Int):=by omega
clear hA hdl hm
go_wp2
refine⟨⟨i+1,by omega,by omega,by go_num,trivial⟩,?_⟩
simp[intOf];omega)
·(
have hje:i=m:=by omega
subst hje
have hE:Hid ((i:Int)=r):=(ae hr).symm
by_cases hes:es.length=0
·(
have l1:(t.size:Int)≤(i:Int):=by omega
have l2:decide ((i:Int)<(t.size:Int))=false:=decide_eq_false (by omega)
clear hA hdl hm hsm hbl hes hjd him hkm hki
go_wp2
go_ret
exact⟨by rw[ae hE];rfl,rfl⟩)
·(
have hb:=fun W=>byte_at (ae HT) i (by omega) 9 underlying9 W
rw[hA,List.getElem?_append_right (by omega),show i-k-ds.length=0 from by omega] at hb
have hee:=ae HE (es[0]?.getD 0) (by rw[List.head?_eq_getElem?,List.getElem?_eq_getElem (by omega)];rfl)
have l1:(i:Int)<(t.size:Int):=by omega
have l2:decide ((i:Int)<(t.size:Int))=true:=decide_eq_true l1
have i0:(0:Int)≤(i:Int):=by omega
generalize (es[0]?.getD 0).toNat=d at *
clear hA hdl hm hsm hbl hes hjd him hkm hki
rcases hee with hee | hee
·have c1:decide (48≤(d:Int))=false:=decide_eq_false (by omega)
 go_wp2
 go_ret
 exact⟨by rw[ae hE];rfl,rfl⟩
·(
have c1:decide (48≤(d:Int))=true:=decide_eq_true (by omega)
have c2:decide ((d:Int)≤57)=false:=decide_eq_false (by omega)
go_wp2
go_ret
exact⟨by rw[ae hE];rfl,rfl⟩)))))
end Go.Proofs.YtagmkkiagjmimaaGreatDoor
namespace Go.Proofs
open Go.Proofs.Tryz
open Go.Shelf
def Tryz.lays99_ren : Go.Shelf.Ren := ⟨fun | 99 => 257 | 206 => 272 | n => n, fun | 3 => 3 | 4 => 4 | 9 => 9 | n => n, fun | n => n⟩
theorem Tryz.lays99 : Go.Proofs.Lays.n99 Tryz.prog Tryz.lays99_ren := {
  mixed := by kernel_rfl
  f99 := Tryz.func257.trans (congrArg some (by kernel_rfl))
  f206 := Tryz.func272.trans (congrArg some (by kernel_rfl))
  t3 := Tryz.underlying3
  a3 := Tryz.isAgg3
  z3 := Tryz.sizeOf3
  v3 := Tryz.zeroValue3
  t4 := Tryz.underlying4
  a4 := Tryz.isAgg4
  z4 := Tryz.sizeOf4
  v4 := Tryz.zeroValue4
  t9 := Tryz.underlying9
  a9 := Tryz.isAgg9
  z9 := Tryz.sizeOf9
  v9 := Tryz.zeroValue9 }
theorem Tryz.strings_HasPrefix (s p:ByteArray) (w:World) :
  Calls prog 257 #[.string s,.string p] w fun e w'=>e=.returned (.bool (Lib.hasPrefix s.data.toList p.data.toList))∧w'=w:=Any.strings_HasPrefix Tryz.lays99 s p w
end Go.Proofs
namespace Go.Proofs.YtagmkkiagjmimaaGreatDoor
open Go.Proofs.Tryz
open Go.RowKit
set_option maxHeartbeats 8000000
set_option maxRecDepth 100000
theorem zkz (t:ByteArray) (xs ds es:List UInt8) (h:t.data.toList=xs++ds++es):(t.extract xs.length (xs.length+ds.length)).data.toList=ds:=by
 rw[ByteArray.data_extract,Array.toList_extract,List.extract_eq_take_drop,h,List.append_assoc,List.drop_left,Nat.add_sub_cancel_left,List.take_left]
theorem zrq (ds:List UInt8) (h:∀ d,ds.head? = some d→d≠45):Lib.hasPrefix ds [45]=false:=by(
cases ds with
| nil=>rfl
| cons d ds =>
 have:=h d rfl
 simp[Lib.hasPrefix,List.isPrefixOf]
 exact fun e=>this e.symm)
theorem zxv (ds:List UInt8):Lib.hasPrefix (45::ds) [45]=true:=by simp[Lib.hasPrefix,List.isPrefixOf]
theorem zyq {ds es:List UInt8} (h:zaj ds) (h0:0<ds.length):∀ d,(ds++es).head? = some d→d≠45:=fun d hd=>by
 cases ds with
 | nil=>simp at h0
 | cons x xs =>
  simp at hd
  subst hd
  have:=(h x (by simp)).1
  intro e
  rw[e] at this
  exact absurd this (by decide)
theorem qef (t:ByteArray) (ds:List UInt8) (w:World) (ht:t.data.toList=[]++ds) (hd:zaj ds) (h0:0<ds.length) (hl:ds.length<1000) :
  Calls prog 234 #[.string t] w fun e w'=>∃ tw:ByteArray,e=.returned (.tuple #[.agg #[.bool false,.string tw,.int .u8 0,.string ⟨#[]⟩,.bool false],.int .i64 (-1)])∧tw.data.toList=ds∧But [] w w':=by(
have htA:t.data.toList=[]++ds++[]:=by rw[List.append_nil];exact ht
have HP:Hid (∀ W,Calls prog 257 #[.string t,.string ⟨#[45]⟩] W fun e w'=>e=.returned (.bool false)∧w'=W):=fun W=>by
 have h:=Tryz.strings_HasPrefix t ⟨#[45]⟩ W
 rw[htA,show (⟨#[45]⟩:ByteArray).data.toList=[45] from rfl,show []++ds++[]=ds++[] from rfl,zrq _ (zyq (es:=[]) hd h0)] at h
 exact h
have hszA:t.size=0+ds.length+([]:List UInt8).length:=by
 have:=congrArg List.length htA
 simp only[List.length_append,List.length_nil] at this ⊢
 rw[← this]
 simp
obtain⟨m,hm⟩:∃ m,m=0+ds.length:=⟨_,rfl⟩
have DE:Hid (∀ W,Calls prog 258 #[.string t,.int .i64 0] W fun e w'=>e=.returned (.int .i64 (m:Int))∧w'=W):=fun W=>zgt t _ ds [] 0 W htA (by simp) (by simp) hd (by simp) (by simp;omega) _ (by show _=_;rw[hm])
have hex:(t.extract 0 m).data.toList=ds:=by
 have:=zkz t [] ds [] htA
 rw[hm]
 exact this
have hsz:t.size=m:=by rw[hszA,hm];rfl
have l3:(t.size:Int)≤(m:Int):=by omega
have l4:decide ((m:Int)<(t.size:Int))=false:=decide_eq_false (by omega)
have n1:((m:Int)==0)=false:=beq_eq_false_iff_ne.2 (by omega)
have hm0:0≤(m:Int):=by omega
have hmt:(m:Int)≤(t.size:Int):=by omega
have hm9:m<2000:=by omega
have HEX:=af hex
clear hex ht htA hd h0 hl hszA hm hsz
go_enter func234,ntmps234
go_wp2_with fail
refine (ae HP _).mono ?_
rintro e w1 ⟨rfl,hw⟩
obtain rfl:=hw.symm
clear hw
go_wp2_with fail
refine (ae DE _).mono ?_
rintro e w1 ⟨rfl,hw⟩
obtain rfl:=hw.symm
clear hw
go_wp2
exact bodyPost_ret (v:=.tuple #[.agg #[.bool false,.string (t.extract 0 m),.int .u8 0,.string (⟨#[]⟩),.bool false],.int .i64 (-1)]) (by simp[results,results234,go_sem]) rfl ⟨t.extract 0 m,rfl,ae HEX,((But.refl _ _).alloc _).alloc _⟩)
theorem zpd (t:ByteArray) (ds:List UInt8) (w:World) (ht:t.data.toList=[45]++ds) (hd:zaj ds) (h0:0<ds.length) (hl:ds.length<1000) :
  Calls prog 234 #[.string t] w fun e w'=>∃ tw:ByteArray,e=.returned (.tuple #[.agg #[.bool true,.string tw,.int .u8 0,.string ⟨#[]⟩,.bool false],.int .i64 (-1)])∧tw.data.toList=ds∧But [] w w':=by(
have htA:t.data.toList=[45]++ds++[]:=by rw[List.append_nil];exact ht
have HP:Hid (∀ W,Calls prog 257 #[.string t,.string ⟨#[45]⟩] W fun e w'=>e=.returned (.bool true)∧w'=W):=fun W=>by
 have h:=Tryz.strings_HasPrefix t ⟨#[45]⟩ W
 rw[htA,show (⟨#[45]⟩:ByteArray).data.toList=[45] from rfl,show [45]++ds++[]=45::(ds++[]) from rfl,zxv] at h
 exact h
have hszA:t.size=1+ds.length+([]:List UInt8).length:=by
 have:=congrArg List.length htA
 simp only[List.length_append,List.length_cons,List.length_nil] at this ⊢
 rw[← this]
 simp
obtain⟨m,hm⟩:∃ m,m=1+ds.length:=⟨_,rfl⟩
have DE:Hid (∀ W,Calls prog 258 #[.string t,.int .i64 1] W fun e w'=>e=.returned (.int .i64 (m:Int))∧w'=W):=fun W=>zgt t _ ds [] 1 W htA (by simp) (by simp) hd (by simp) (by simp;omega) _ (by show _=_;rw[hm])
have hex:(t.extract 1 m).data.toList=ds:=by
 have:=zkz t [45] ds [] htA
 rw[hm]
 exact this
have hsz:t.size=m:=by rw[hszA,hm];rfl
have l3:(t.size:Int)≤(m:Int):=by omega
have l4:decide ((m:Int)<(t.size:Int))=false:=decide_eq_false (by omega)
have n1:((m:Int)==1)=false:=beq_eq_false_iff_ne.2 (by omega)
have hm0:1≤(m:Int):=by omega
have hmt:(m:Int)≤(t.size:Int):=by omega
have hm9:m<2000:=by omega
have HEX:=af hex
clear hex ht htA hd h0 hl hszA hm hsz
go_enter func234,ntmps234
go_wp2_with fail
refine (ae HP _).mono ?_
rintro e w1 ⟨rfl,hw⟩
obtain rfl:=hw.symm
clear hw
go_wp2_with fail
refine (ae DE _).mono ?_
rintro e w1 ⟨rfl,hw⟩
obtain rfl:=hw.symm
clear hw
go_wp2
exact bodyPost_ret (v:=.tuple #[.agg #[.bool true,.string (t.extract 1 m),.int .u8 0,.string (⟨#[]⟩),.bool false],.int .i64 (-1)]) (by simp[results,results234,go_sem]) rfl ⟨t.extract 1 m,rfl,ae HEX,((But.refl _ _).alloc _).alloc _⟩)
end Go.Proofs.YtagmkkiagjmimaaGreatDoor
