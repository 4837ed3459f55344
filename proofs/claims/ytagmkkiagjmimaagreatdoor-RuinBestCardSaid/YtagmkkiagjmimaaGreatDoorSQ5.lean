/- Decimal digits and the number that they  -/
import Derived.Shelf.Strings.Prefix
import Derived.Test.YtagmkkiagjmimaaGreatDoorProg
import Derived.Deep.RegionHeld
import Derived.Test.YtagmkkiagjmimaaGreatDoorSF7
namespace Go.Proofs.YtagmkkiagjmimaaGreatDoor
set_option linter.unusedVariables false
open Go.Proofs.Tryz
open Go.RowKit
set_option maxHeartbeats 4000000
set_option maxRecDepth 100000
def tu (ds:List UInt8):Prop:=∀ d ∈ ds,48≤d.toNat∧d.toNat≤57
def jk (ds:List UInt8):Nat:=ds.foldl (fun n d=>n*10+(d.toNat-48)) 0
theorem zzi (ds:List UInt8):∀ n:Nat,ds.foldl (fun n d=>n*10+(d.toNat-48)) n=n*10^ds.length+jk ds:=by(
 induction ds with
 | nil=>intro n;simp[jk]
 | cons d ds ih =>
  intro n
  unfold jk
  rw[List.foldl_cons,List.foldl_cons,ih,ih (0*10+(d.toNat-48)),List.length_cons,Nat.pow_succ]
  generalize 10^ds.length=P
  generalize jk ds=D
  grind)
theorem zaa (xs ys:List UInt8):jk (xs++ys)=jk xs*10^ys.length+jk ys:=by(
 show (xs++ys).foldl (fun n d=>n*10+(d.toNat-48)) 0=_
 rw[List.foldl_append,zzi]
 rfl)
theorem znk (xs:List UInt8) (d:UInt8):jk (xs++[d])=jk xs*10+(d.toNat-48):=by
 rw[zaa]
 simp[jk]
theorem zzj (d:UInt8) (ds:List UInt8):jk (d::ds)=(d.toNat-48)*10^ds.length+jk ds:=by(
 have h:=zaa [d] ds
 rw[List.singleton_append] at h
 rw[h]
 simp[jk])
theorem zjm:∀ {ds:List UInt8},tu ds→jk ds<10^ds.length
 | [],_=>by simp[jk]
 | d::ds,h=>by
  have h1:=zjm (ds:=ds) (fun x hx=>h x (by simp[hx]))
  have h2:=h d (by simp)
  have h3:(d.toNat-48)*10^ds.length≤9*10^ds.length:=Nat.mul_le_mul_right _ (by omega)
  rw[zzj,List.length_cons,Nat.pow_succ]
  omega
theorem zsg (k:Nat) (h:k<10):(UInt8.ofNat (48+k)).toNat=48+k:=UInt8.toNat_ofNat_of_lt' (by simp[UInt8.size];omega)
theorem zlc (n:Nat):tu (Lib.decDigits n)∧jk (Lib.decDigits n)=n∧0<(Lib.decDigits n).length:=by(
 induction n using Nat.strongRecOn with
 | _ n ih =>
  rw[Lib.decDigits]
  by_cases h10:n<10
  ·rw[dif_pos h10]
   have e:=zsg n h10
   refine⟨fun d hd=>?_,?_,by simp⟩
   ·rw[List.mem_singleton] at hd
    rw[hd,e]
    omega
   ·show 0*10+((UInt8.ofNat (48+n)).toNat-48)=n
    rw[e]
    omega
  ·rw[dif_neg h10]
   obtain⟨h1,h2,h3⟩:=ih (n/10) (Nat.div_lt_self (by omega) (by omega))
   have e:=zsg (n%10) (Nat.mod_lt _ (by omega))
   refine⟨fun d hd=>?_,?_,by simp⟩
   ·rcases List.mem_append.1 hd with hd | hd
    ·exact h1 d hd
    ·rw[List.mem_singleton] at hd
     rw[hd,e]
     omega
   ·rw[znk,h2,e]
    omega)
theorem zxj {es:List UInt8} {j:Nat} (hd:tu es) (hj:j<es.length):jk (es.take (j+1))=jk (es.take j)*10+((es[j]?.getD 0).toNat-48)∧jk (es.take j)<10^j∧48≤(es[j]?.getD 0).toNat∧(es[j]?.getD 0).toNat≤57:=by(
 have h1:es.take (j+1)=es.take j++[es[j]?.getD 0]:=by
  rw[List.getElem?_eq_getElem hj,Option.getD_some,List.take_succ_eq_append_getElem hj]
 have h2:=zjm (ds:=es.take j) (fun x hx=>hd x (List.mem_of_mem_take hx))
 rw[List.length_take,Nat.min_eq_left (by omega)] at h2
 have h3:=hd (es[j]?.getD 0) (by rw[List.getElem?_eq_getElem hj,Option.getD_some];exact List.getElem_mem hj)
 exact⟨by rw[h1,znk],h2,h3.1,h3.2⟩)
theorem byte_at {t:ByteArray} {es:List UInt8} (ht:t.data.toList=es) (j:Nat) (hj:j<es.length) (T:TypeId) (hT:prog.underlying T=some .string) (w:World):(Instr.index T (.string t) (.int .i64 (j:Int))).run prog w=.ok (.int .u8 (((es[j]?.getD 0).toNat:Nat):Int)) w:=by(
 subst ht
 have hs:j<t.size:=by simpa using hj
 rw[run_index_string w T t .i64 (j:Int) hT,dif_pos ⟨by omega,by omega⟩]
 have e:(t[((j:Int)).toNat]'(by simpa using hs))=t.data.toList[j]?.getD 0:=by
  rw[List.getElem?_eq_getElem hj,Option.getD_some]
  simp
  rfl
 simp only[e])
theorem extract_drop (t:ByteArray) (j:Nat):(t.extract j t.size).data.toList=t.data.toList.drop j:=by(
 rw[ByteArray.data_extract,Array.toList_extract,List.extract_eq_take_drop,List.take_of_length_le]
 rw[List.length_drop]
 simp)
structure qgo (w:World) (ds:List UInt8) (k:Nat) (t:ByteArray) (vo:Value) (wr:World):Prop where
 left:t.data.toList=ds.drop k
 le:k≤ds.length
 num:Sl .u64 wr vo (wd 18446744073709551616 (jk (ds.take k)))
 but:But [] w wr
theorem zrl (t:ByteArray) (ds:List UInt8) (w:World) (ht:t.data.toList=ds) (hd:tu ds) (hl:ds.length<1000000) :
   Calls prog 259 #[.string t] w fun e w'=>∃ v',e=.returned v'∧Sl .u64 w' v' (wd 18446744073709551616 (jk ds))∧But [] w w':=by(
 have HD:=af hd
 have HT:=af ht
 clear hd ht
 go_enter func259,ntmps259
 go_wp2
 go_loopg [0,3] ds.length (fun m s o wr=>∃ (t:ByteArray),s=.string t∧Hid (qgo w ds (ds.length-m) t o wr)∧m≤ds.length∧t.size=m)
 case atStart=>exact⟨t,rfl,⟨by rw[Nat.sub_self,List.drop_zero];exact ae HT,by omega,by rw[Nat.sub_self,List.take_zero];exact zh 18446744073709551616 ▸ Sl.nil _ _,But.refl _ _⟩,Nat.le_refl _,by rw[← ae HT];simp⟩
 case round =>(
 obtain⟨t,rfl,HI,hm,hsz⟩:=hrel
 rename World=>wr
 have hs:((t.size:Nat):Int)=(gk:Int):=by omega
 by_cases hm0:gk=0
 ·(
 subst hm0
 have hfin:Hid (Sl .u64 wr u3 (wd 18446744073709551616 (jk ds))∧But [] w wr):=by
  have h:=ae HI
  have h1:=h.num
  rw[Nat.sub_zero,List.take_length] at h1
  exact⟨h1,h.but⟩
 clear HI
 go_wp2
 go_ret
 exact⟨_,rfl,(ae hfin).1,(ae hfin).2⟩)
 ·(
 obtain⟨c,hc⟩:∃ c,c=min gk 19:=⟨_,rfl⟩
 have hc1:0<c:=by omega
 have hc2:c≤19:=by omega
 have hc3:c≤gk:=by omega
 have hmin:min (gk:Int) 19=(c:Int):=by omega
 clear hc
 have hes:Hid (t.data.toList=ds.drop (ds.length-gk)):=(ae HI).left
 have hel:(ds.drop (ds.length-gk)).length=gk:=by rw[List.length_drop];omega
 have hed:tu (ds.drop (ds.length-gk)):=fun d h=>ae HD d (List.mem_of_mem_drop h)
 obtain⟨es,hese⟩:∃ es,es=ds.drop (ds.length-gk):=⟨_,rfl⟩
 rw[← hese] at hes hel hed
 have HEE:=af hese
 have HED:=af hed
 clear hese hed
 go_wp2_with fail
 go_loopw [5,6,15] (fun a b i wq=>∃ j x P:Nat,j≤c∧i=.int .i64 j∧a=.int .u64 x∧b=.int .u64 P∧x<10000000000000000000∧P≤10000000000000000000∧Hid (x=jk (es.take j)∧P=10^j)∧wq=wr) (fun _ _ i _=>c-(intOf i).toNat)
 case atStart=>exact⟨0,0,1,by omega,rfl,rfl,rfl,by omega,by omega,⟨by simp[jk],by simp⟩,rfl⟩
 case round =>(
 obtain⟨j,x,P,hj,rfl,rfl,rfl,hx,hP,HJ,rfl⟩:=hrel
 by_cases hjc:j<c
 ·(
 obtain⟨d1,d2,d3,d4⟩:=zxj (ae HED) (by omega:j<es.length)
 have hb:=fun W=>byte_at (ae hes) j (by omega) 9 underlying9 W
 rw[← (ae HJ).1] at d1 d2
 have hp18:10^j≤10^18:=Nat.pow_le_pow_right (by omega) (by omega)
 have hpp:Hid (P*10=10^(j+1)):=by show _=_;rw[(ae HJ).2,Nat.pow_succ]
 have hP2:P≤1000000000000000000:=by rw[(ae HJ).2];exact hp18
 have hx2:x<1000000000000000000:=Nat.lt_of_lt_of_le d2 hp18
 generalize (es[j]?.getD 0).toNat=d at *
 obtain⟨d',rfl⟩:∃ d',d=48+d':=⟨d-48,by omega⟩
 have HD1:Hid (jk (es.take (j+1))=x*10+d'):=by show _=_;rw[d1];omega
 have hd9:d'≤9:=by omega
 have e1:IntKind.u8.wrap (((48+d':Nat):Int)-48)=(d':Int):=by rw[IntKind.wrap_u8];omega
 have e2:IntKind.u64.wrap ((x:Int)*10)=((x*10:Nat):Int):=by rw[IntKind.wrap_u64];omega
 have e3:IntKind.u64.wrap (((x*10:Nat):Int)+(d':Int))=((x*10+d':Nat):Int):=by rw[IntKind.wrap_u64];omega
 have e4:IntKind.u64.wrap ((P:Int)*10)=((P*10:Nat):Int):=by rw[IntKind.wrap_u64];omega
 clear d1 d2 d3 d4 hp18
 go_wp2
 refine⟨⟨j+1,x*10+d',P*10,by omega,by go_num,by go_num,by go_num,by omega,by omega,⟨(ae HD1).symm,ae hpp⟩,trivial⟩,?_⟩
 simp[intOf];omega)
 ·(
 have hjc':j=c:=by omega
 subst hjc'
 have hI:=ae HI
 have hnew:jk (ds.take (ds.length-gk))*P+x=jk (ds.take (ds.length-(gk-j))):=by
  have e:ds.take (ds.length-(gk-j))=ds.take (ds.length-gk)++es.take j:=by
   rw[ae HEE,show ds.length-(gk-j)=(ds.length-gk)+j from by omega,List.take_add]
  rw[e,zaa,List.length_take,Nat.min_eq_left (by omega),← (ae HJ).1,← (ae HJ).2]
 have hlen:(wd 18446744073709551616 (jk (ds.take (ds.length-gk)))).length<1000000:=by
  have h1:=zjm (ds:=ds.take (ds.length-gk)) (fun x hx=>ae HD x (List.mem_of_mem_take hx))
  refine Nat.lt_of_le_of_lt (aj (B:=18446744073709551616) (by omega) _ (ds.take (ds.length-gk)).length (Nat.lt_of_lt_of_le h1 (Nat.pow_le_pow_left (by omega) _))) ?_
  rw[List.length_take]
  omega
 have hwl:∀ n,n < 18446744073709551616→(wd 18446744073709551616 n).length≤1:=fun n hn=>aj (by omega) _ _ (by rw[Nat.pow_one];exact hn)
 have hl1:=hwl P (by omega)
 have hl2:=hwl x (by omega)
 have hl3:=qi (jk (ds.take (ds.length-gk))) P
 have MU:=af (fun (W:World) (v:Value) (hb:But [] wr W) (h:Sl .u64 W v (wd 18446744073709551616 P))=>qz u3 v _ _ W (hI.num.ah hb) h (by omega))
 have AD:=af (fun (W:World) (v v2:Value) (h:Sl .u64 W v (wd 18446744073709551616 (jk (ds.take (ds.length-gk))*P))) (h2:Sl .u64 W v2 (wd 18446744073709551616 x))=>ig v v2 _ _ W h h2 (by omega) (by omega))
 rw[hnew] at AD
 have HBW:=af hI.but
 have hex:t.extract j t.size=t.extract j t.size:=rfl
 have hleft:Hid ((t.extract j t.size).data.toList=ds.drop (ds.length-(gk-j))):=by
  show _=_
  have h1:=ae hes
  rw[show ds.length-(gk-j)=(ds.length-gk)+j from by omega,← List.drop_drop,← ae HEE,← h1]
  exact extract_drop t j
 have hsz2:(t.extract j t.size).size=gk-j:=by simp[hsz]
 rw[hsz] at hleft hsz2
 clear hI hnew hlen hwl hl1 hl2 hl3 hex
 obtain⟨oa,oc,hoe⟩:∃ a c,u3=.slice a (wd 18446744073709551616 (jk (ds.take (ds.length-gk)))).length c:=by obtain⟨a,c,e,-,-⟩:=(ae HI).num;exact⟨a,c,e⟩
 clear HI
 subst hoe
 generalize (wd 18446744073709551616 (jk (ds.take (ds.length-gk)))).length=on at *
 go_wp2_with fail
 refine (jc P (by omega) _).mono ?_
 rintro e w1 ⟨v1,rfl,hv1,hb1,-⟩
 have H1:=af hv1
 have B1:=af hb1
 clear hv1 hb1
 go_wp2_with fail
 refine (ae MU _ v1 (ae B1) (ae H1)).mono ?_
 rintro e w2 ⟨v2,rfl,hv2,hb2,-⟩
 have H2:=af hv2
 have B2:Hid (But [] w w2):=((ae HBW).trans' (ae B1)).trans' hb2
 clear hv2 hb2
 go_wp2_with fail
 refine (jc x (by omega) _).mono ?_
 rintro e w3 ⟨v3,rfl,hv3,hb3,-⟩
 have H3:=af hv3
 have H2':=af ((ae H2).ah hb3)
 have B3:Hid (But [] w w3):=(ae B2).trans' hb3
 clear hv3 hb3
 go_wp2_with fail
 refine (ae AD _ v2 v3 (ae H2') (ae H3)).mono ?_
 rintro e w4 ⟨v4,rfl,hv4,hb4⟩
 have H4:=af hv4
 have B4:Hid (But [] w w4):=(ae B3).trans' hb4
 clear hv4 hb4
 go_wp2
 go_roundg (gk-j)
 case measure=>omega
 case rel=>exact⟨_,rfl,⟨ae hleft,by omega,ae H4,ae B4⟩,by omega,hsz2⟩)))))
theorem zfe (t:ByteArray) (bs ds es:List UInt8) (k:Nat) (w:World) (ht:t.data.toList=bs) (hk:bs.drop k=ds++es) (hkl:k≤bs.length) (hd:tu ds) (he:∀ e,es.head? = some e→e.toNat<48∨57<e.toNat) (hl:bs.length<1000000) (r:Int) (hr:Hid (r=((k+ds.length:Nat):Int))) :
   Calls prog 258 #[.string t,.int .i64 (k:Int)] w fun e w'=>e=.returned (.int .i64 r)∧w'=w:=by(
 have hlen:bs.length=k+ds.length+es.length:=by
  have:=congrArg List.length hk
  rw[List.length_drop,List.length_append] at this
  omega
 have hsz:t.size=k+ds.length+es.length:=by rw[← hlen,← ht];simp
 have hs:((t.size:Nat):Int)=((k+ds.length+es.length:Nat):Int):=by rw[hsz]
 have hat:∀ j,(bs[k+j]?.getD 0)=((ds++es)[j]?.getD 0):=fun j=>by rw[← hk,List.getElem?_drop]
 have HAT:=af hat
 have HT:=af ht
 have HD:=af hd
 have HE:=af he
 clear hat hk hd he ht hkl
 go_enter func258,ntmps258
 go_wp2
 obtain⟨m,hm⟩:∃ m,m=k+ds.length:=⟨_,rfl⟩
 have hsm:t.size=m+es.length:=by omega
 rw[← hm] at hr
 have hkm:k≤m:=by omega
 have hbl:bs.length=m+es.length:=by omega
 have hdl:ds.length=m-k:=by omega
 clear hsz hs hlen
 go_loopw [1] (fun a wq=>∃ i:Nat,k≤i∧i≤m∧a=.int .i64 (i:Int)∧wq=w) (fun a _=>m-(intOf a).toNat)
 case atStart=>exact⟨k,by omega,by omega,rfl,rfl⟩
 case round =>(
 obtain⟨i,hki,him,rfl,rfl⟩:=hrel
 have hA:(bs[i]?.getD 0)=((ds++es)[i-k]?.getD 0):=by have:=ae HAT (i-k);rw[show k+(i-k)=i from by omega] at this;exact this
 by_cases hjd:i<m
 ·(
 have hb:=fun W=>byte_at (ae HT) i (by omega) 9 underlying9 W
 rw[hA,List.getElem?_append_left (by omega)] at hb
 have hdd:=ae HD (ds[i-k]?.getD 0) (by rw[List.getElem?_eq_getElem (by omega),Option.getD_some];exact List.getElem_mem _)
 generalize (ds[i-k]?.getD 0).toNat=d at *
 have l1:(i:Int)<(t.size:Int):=by omega
 have c1:decide (48≤(d:Int))=true:=decide_eq_true (by omega)
 have c2:decide ((d:Int)≤57)=true:=decide_eq_true (by omega)
 have l2:decide ((i:Int)<(t.size:Int))=true:=decide_eq_true l1
 have i0:(0:Int)≤(i:Int):=by omega
 clear hA hdl hm
 go_wp2
 refine⟨⟨i+1,by omega,by omega,by go_num,trivial⟩,?_⟩
 simp[intOf];omega)
 ·(
 have hje:i=m:=by omega
 subst hje
 have hE:Hid ((i:Int)=r):=(ae hr).symm
 by_cases hes:es.length=0
 ·(
 have l1:(t.size:Int)≤(i:Int):=by omega
 have l2:decide ((i:Int)<(t.size:Int))=false:=decide_eq_false (by omega)
 clear hA hdl hm hsm hbl hes hjd him hkm hki
 go_wp2
 go_ret
 exact⟨by rw[ae hE];rfl,rfl⟩)
 ·(
 have hb:=fun W=>byte_at (ae HT) i (by omega) 9 underlying9 W
 rw[hA,List.getElem?_append_right (by omega),show i-k-ds.length=0 from by omega] at hb
 have hee:=ae HE (es[0]?.getD 0) (by rw[List.head?_eq_getElem?,List.getElem?_eq_getElem (by omega)];rfl)
 have l1:(i:Int)<(t.size:Int):=by omega
 have l2:decide ((i:Int)<(t.size:Int))=true:=decide_eq_true l1
 have i0:(0:Int)≤(i:Int):=by omega
 generalize (es[0]?.getD 0).toNat=d at *
 clear hA hdl hm hsm hbl hes hjd him hkm hki
 rcases hee with hee | hee
 ·have c1:decide (48≤(d:Int))=false:=decide_eq_false (by omega)
  go_wp2
  go_ret
  exact⟨by rw[ae hE];rfl,rfl⟩
 ·(
 have c1:decide (48≤(d:Int))=true:=decide_eq_true (by omega)
 have c2:decide ((d:Int)≤57)=false:=decide_eq_false (by omega)
 go_wp2
 go_ret
 exact⟨by rw[ae hE];rfl,rfl⟩)))))
end Go.Proofs.YtagmkkiagjmimaaGreatDoor
namespace Go.Proofs
open Go.Proofs.Tryz
open Go.Shelf
def Tryz.lays99_ren : Go.Shelf.Ren := ⟨fun | 99 => 257 | 206 => 272 | n => n, fun | 3 => 3 | 4 => 4 | 9 => 9 | n => n, fun | n => n⟩
theorem Tryz.lays99 : Go.Proofs.Lays.n99 Tryz.prog Tryz.lays99_ren := {
  mixed := by kernel_rfl
  f99 := Tryz.func257.trans (congrArg some (by kernel_rfl))
  f206 := Tryz.func272.trans (congrArg some (by kernel_rfl))
  t3 := Tryz.underlying3
  a3 := Tryz.isAgg3
  z3 := Tryz.sizeOf3
  v3 := Tryz.zeroValue3
  t4 := Tryz.underlying4
  a4 := Tryz.isAgg4
  z4 := Tryz.sizeOf4
  v4 := Tryz.zeroValue4
  t9 := Tryz.underlying9
  a9 := Tryz.isAgg9
  z9 := Tryz.sizeOf9
  v9 := Tryz.zeroValue9 }
theorem Tryz.strings_HasPrefix (s p:ByteArray) (w:World) :
  Calls prog 257 #[.string s,.string p] w fun e w'=>e=.returned (.bool (Lib.hasPrefix s.data.toList p.data.toList))∧w'=w:=Any.strings_HasPrefix Tryz.lays99 s p w
end Go.Proofs
namespace Go.Proofs.YtagmkkiagjmimaaGreatDoor
open Go.Proofs.Tryz
open Go.RowKit
set_option maxHeartbeats 8000000
set_option maxRecDepth 100000
theorem zit (t:ByteArray) (xs ds es:List UInt8) (h:t.data.toList=xs++ds++es):(t.extract xs.length (xs.length+ds.length)).data.toList=ds:=by
 rw[ByteArray.data_extract,Array.toList_extract,List.extract_eq_take_drop,h,List.append_assoc,List.drop_left,Nat.add_sub_cancel_left,List.take_left]
theorem zom (ds:List UInt8) (h:∀ d,ds.head? = some d→d≠45):Lib.hasPrefix ds [45]=false:=by(
 cases ds with
 | nil=>rfl
 | cons d ds =>
  have:=h d rfl
  simp[Lib.hasPrefix,List.isPrefixOf]
  exact fun e=>this e.symm)
theorem ztr (ds:List UInt8):Lib.hasPrefix (45::ds) [45]=true:=by simp[Lib.hasPrefix,List.isPrefixOf]
theorem zuq {ds es:List UInt8} (h:tu ds) (h0:0<ds.length):∀ d,(ds++es).head? = some d→d≠45:=fun d hd=>by
 cases ds with
 | nil=>simp at h0
 | cons x xs =>
  simp at hd
  subst hd
  have:=(h x (by simp)).1
  intro e
  rw[e] at this
  exact absurd this (by decide)
theorem zzm (t:ByteArray) (ds:List UInt8) (w:World) (ht:t.data.toList=[]++ds) (hd:tu ds) (h0:0<ds.length) (hl:ds.length<1000) :
   Calls prog 234 #[.string t] w fun e w'=>∃ tw:ByteArray,e=.returned (.tuple #[.agg #[.bool false,.string tw,.int .u8 0,.string ⟨#[]⟩,.bool false],.int .i64 (-1)])∧tw.data.toList=ds∧But [] w w':=by(
 have htA:t.data.toList=[]++ds++[]:=by rw[List.append_nil];exact ht
 have HP:Hid (∀ W,Calls prog 257 #[.string t,.string ⟨#[45]⟩] W fun e w'=>e=.returned (.bool false)∧w'=W):=fun W=>by
  have h:=Tryz.strings_HasPrefix t ⟨#[45]⟩ W
  rw[htA,show (⟨#[45]⟩:ByteArray).data.toList=[45] from rfl,show []++ds++[]=ds++[] from rfl,zom _ (zuq (es:=[]) hd h0)] at h
  exact h
 have hszA:t.size=0+ds.length+([]:List UInt8).length:=by
  have:=congrArg List.length htA
  simp only[List.length_append,List.length_nil] at this ⊢
  rw[← this]
  simp
 obtain⟨m,hm⟩:∃ m,m=0+ds.length:=⟨_,rfl⟩
 have DE:Hid (∀ W,Calls prog 258 #[.string t,.int .i64 0] W fun e w'=>e=.returned (.int .i64 (m:Int))∧w'=W):=fun W=>zfe t _ ds [] 0 W htA (by simp) (by simp) hd (by simp) (by simp;omega) _ (by show _=_;rw[hm])
 have hex:(t.extract 0 m).data.toList=ds:=by
  have:=zit t [] ds [] htA
  rw[hm]
  exact this
 have hsz:t.size=m:=by rw[hszA,hm];rfl
 have l3:(t.size:Int)≤(m:Int):=by omega
 have l4:decide ((m:Int)<(t.size:Int))=false:=decide_eq_false (by omega)
 have n1:((m:Int)==0)=false:=beq_eq_false_iff_ne.2 (by omega)
 have hm0:0≤(m:Int):=by omega
 have hmt:(m:Int)≤(t.size:Int):=by omega
 have hm9:m<2000:=by omega
 have HEX:=af hex
 clear hex ht htA hd h0 hl hszA hm hsz
 go_enter func234,ntmps234
 go_wp2_with fail
 refine (ae HP _).mono ?_
 rintro e w1 ⟨rfl,hw⟩
 obtain rfl:=hw.symm
 clear hw
 go_wp2_with fail
 refine (ae DE _).mono ?_
 rintro e w1 ⟨rfl,hw⟩
 obtain rfl:=hw.symm
 clear hw
 go_wp2
 exact bodyPost_ret (v:=.tuple #[.agg #[.bool false,.string (t.extract 0 m),.int .u8 0,.string (⟨#[]⟩),.bool false],.int .i64 (-1)]) (by simp[results,results234,go_sem]) rfl ⟨t.extract 0 m,rfl,ae HEX,((But.refl _ _).alloc _).alloc _⟩)
theorem zmn (t:ByteArray) (ds:List UInt8) (w:World) (ht:t.data.toList=[45]++ds) (hd:tu ds) (h0:0<ds.length) (hl:ds.length<1000) :
   Calls prog 234 #[.string t] w fun e w'=>∃ tw:ByteArray,e=.returned (.tuple #[.agg #[.bool true,.string tw,.int .u8 0,.string ⟨#[]⟩,.bool false],.int .i64 (-1)])∧tw.data.toList=ds∧But [] w w':=by(
 have htA:t.data.toList=[45]++ds++[]:=by rw[List.append_nil];exact ht
 have HP:Hid (∀ W,Calls prog 257 #[.string t,.string ⟨#[45]⟩] W fun e w'=>e=.returned (.bool true)∧w'=W):=fun W=>by
  have h:=Tryz.strings_HasPrefix t ⟨#[45]⟩ W
  rw[htA,show (⟨#[45]⟩:ByteArray).data.toList=[45] from rfl,show [45]++ds++[]=45::(ds++[]) from rfl,ztr] at h
  exact h
 have hszA:t.size=1+ds.length+([]:List UInt8).length:=by
  have:=congrArg List.length htA
  simp only[List.length_append,List.length_cons,List.length_nil] at this ⊢
  rw[← this]
  simp
 obtain⟨m,hm⟩:∃ m,m=1+ds.length:=⟨_,rfl⟩
 have DE:Hid (∀ W,Calls prog 258 #[.string t,.int .i64 1] W fun e w'=>e=.returned (.int .i64 (m:Int))∧w'=W):=fun W=>zfe t _ ds [] 1 W htA (by simp) (by simp) hd (by simp) (by simp;omega) _ (by show _=_;rw[hm])
 have hex:(t.extract 1 m).data.toList=ds:=by
  have:=zit t [45] ds [] htA
  rw[hm]
  exact this
 have hsz:t.size=m:=by rw[hszA,hm];rfl
 have l3:(t.size:Int)≤(m:Int):=by omega
 have l4:decide ((m:Int)<(t.size:Int))=false:=decide_eq_false (by omega)
 have n1:((m:Int)==1)=false:=beq_eq_false_iff_ne.2 (by omega)
 have hm0:1≤(m:Int):=by omega
 have hmt:(m:Int)≤(t.size:Int):=by omega
 have hm9:m<2000:=by omega
 have HEX:=af hex
 clear hex ht htA hd h0 hl hszA hm hsz
 go_enter func234,ntmps234
 go_wp2_with fail
 refine (ae HP _).mono ?_
 rintro e w1 ⟨rfl,hw⟩
 obtain rfl:=hw.symm
 clear hw
 go_wp2_with fail
 refine (ae DE _).mono ?_
 rintro e w1 ⟨rfl,hw⟩
 obtain rfl:=hw.symm
 clear hw
 go_wp2
 exact bodyPost_ret (v:=.tuple #[.agg #[.bool true,.string (t.extract 1 m),.int .u8 0,.string (⟨#[]⟩),.bool false],.int .i64 (-1)]) (by simp[results,results234,go_sem]) rfl ⟨t.extract 1 m,rfl,ae HEX,((But.refl _ _).alloc _).alloc _⟩)
theorem qfg (s:Bool) (X Y g:Nat) (hg:0<g) (hx:g ∣ X) (hy:g ∣ Y) (f:Rat) (hY:0<Y) (h:f.num*(Y:Int)=sgn s X*(f.den:Int)) (hc:Nat.Coprime (X/g) (Y/g)):f.num=sgn s (X/g)∧f.den=Y/g:=by(
 have hyq:0<Y/g:=Nat.div_pos (Nat.le_of_dvd hY hy) hg
 refine ay (sgn s (X/g)) (Y/g) (by omega) (by rw[jd];exact hc) f ?_
 have e1:(Y:Int)=((Y/g:Nat):Int)*(g:Int):=by rw[← Int.natCast_mul,Nat.div_mul_cancel hy]
 have e2:sgn s X=sgn s (X/g)*(g:Int):=by rw[← ug,Nat.div_mul_cancel hx]
 rw[e1,e2] at h
 have hg':(g:Int)≠0:=by omega
 apply Int.eq_of_mul_eq_mul_right hg'
 rw[Int.mul_assoc,h,Int.mul_right_comm])
theorem zmd (s:Bool) (vx vy:Value) (X Y:Nat) (w:World) (hx:Sl .u64 w vx (wd 18446744073709551616 X)) (hy:Sl .u64 w vy (wd 18446744073709551616 Y)) (hY:0<Y) (lx:(wd 18446744073709551616 X).length≤1000000) (ly:(wd 18446744073709551616 Y).length≤1000000) (f:Rat) (hf:f.num*(Y:Int)=sgn s X*(f.den:Int)) :
   Calls prog 238 #[.bool s,vx,vy] w fun e w'=>∃ v,e=.returned v∧am w' v f∧But [] w w':=by(
 obtain⟨g,hg⟩:∃ g,g=Nat.gcd X Y:=⟨_,rfl⟩
 have hg0:0<g:=by rw[hg];exact Nat.gcd_pos_of_pos_right _ hY
 have hgl:(wd 18446744073709551616 g).length≤1000000:=Nat.le_trans (au (by rw[hg];exact Nat.gcd_le_right _ hY)) ly
 obtain⟨f1,f2⟩:=qfg s X Y g hg0 (by rw[hg];exact Nat.gcd_dvd_left _ _) (by rw[hg];exact Nat.gcd_dvd_right _ _) f hY hf (by rw[hg];exact Nat.coprime_div_gcd_div_gcd (by omega))
 have GC:Hid (∀ W,But [] w W→Calls prog 168 #[vx,vy] W fun e w'=>∃ v,e=.returned v∧Sl .u64 w' v (wd 18446744073709551616 g)∧But [] W w'):=fun W hb=>by
  rw[hg]
  exact zay vx vy X Y W (hx.ah hb) (hy.ah hb) lx ly
 have Q1:Hid (∀ W v,But [] w W→Sl .u64 W v (wd 18446744073709551616 g)→Calls prog 170 #[vx,v] W fun e w'=>∃ v1,e=.returned v1∧Sl .u64 w' v1 (wd 18446744073709551616 (X/g))∧But [] W w'):=fun W v hb h=>j4 vx v _ _ W (hx.ah hb) h hg0 (by omega) (by omega) (Short.of _ _ lx)
 have Q2:Hid (∀ W v,But [] w W→Sl .u64 W v (wd 18446744073709551616 g)→Calls prog 170 #[vy,v] W fun e w'=>∃ v1,e=.returned v1∧Sl .u64 w' v1 (wd 18446744073709551616 (Y/g))∧But [] W w'):=fun W v hb h=>j4 vy v _ _ W (hy.ah hb) h hg0 (by omega) (by omega) (Short.of _ _ ly)
 have habs:f.num.natAbs=X/g:=by rw[f1,jd]
 have OL:Hid (∀ W v1 v2,Sl .u64 W v1 (wd 18446744073709551616 (X/g))→Sl .u64 W v2 (wd 18446744073709551616 (Y/g))→Calls prog 169 #[.bool s,v1,v2] W fun e w'=>∃ v,e=.returned v∧am w' v f∧But [] W w'):=fun W v1 v2 h1 h2=>ic s v1 v2 f W (by rw[habs];exact h1) (by rw[f2];exact h2) (by rw[habs];exact f1) (by rw[habs];have:=ui X g 1000000 lx;omega) (by rw[f2];have:=ui Y g 1000000 ly;omega)
 obtain⟨a1,d1,rfl,-,-⟩:=hx
 obtain⟨a2,d2,rfl,-,-⟩:=hy
 clear hg hg0 hgl f1 f2 habs lx ly hf
 generalize (wd 18446744073709551616 X).length=n1 at *
 generalize (wd 18446744073709551616 Y).length=n2 at *
 obtain⟨W,hW⟩:∃ W,W=w.alloc (.cells #[.bool false,.int .u64 0,.int .u64 0,.pointer none] 27):=⟨_,rfl⟩
 have r0:W.cell? ⟨w.heap.size,0,none⟩=some (.bool false):=by rw[hW];simp
 have r1:W.cell? ⟨w.heap.size,1,none⟩=some (.int .u64 0):=by rw[hW];simp
 have r2:W.cell? ⟨w.heap.size,2,none⟩=some (.int .u64 0):=by rw[hW];simp
 have r3:W.cell? ⟨w.heap.size,3,none⟩=some (.pointer none):=by rw[hW];simp
 have fz:∀ j,W.frozen? ⟨w.heap.size,j,none⟩=false:=fun j=>by rw[hW];simp
 have BL:Hid (Blank W w.heap.size):=⟨r0,r1,r2,r3,fun j hj=>by rw[hW,World.cell?_alloc_new];simp;omega⟩
 have HB:Hid (But [] w W):=by show But _ _ _;rw[hW];exact (But.refl _ _).alloc _
 have HW:=af hW
 clear hW
 go_enter func238,ntmps238
 go_wp2_with fail
 rw[← ae HW]
 obtain⟨gr,hgr⟩:∃ gr,gr=w.heap.size:=⟨_,rfl⟩
 rw[← hgr] at r0 r1 r2 r3 fz BL
 rw[← hgr]
 have HGR:Hid (w.heap.size≤gr):=by show _≤_;omega
 clear hgr HW
 have grl:gr<W.heap.size:=ai r0
 refine (ae GC _ (ae HB)).mono ?_
 rintro e w1 ⟨vg,rfl,hvg,hb1⟩
 have HVG:=af hvg
 have K1:=af hb1
 have B1:Hid (But [] w w1):=(ae HB).trans' hb1
 clear hvg hb1
 go_wp2_with fail
 refine (ae Q1 _ vg (ae B1) (ae HVG)).mono ?_
 rintro e w2 ⟨v1,rfl,hv1,hb2⟩
 have HV1:=af hv1
 have HVG2:=af ((ae HVG).ah hb2)
 have K2:Hid (But [] W w2):=(ae K1).trans' hb2
 have B2:Hid (But [] w w2):=(ae B1).trans' hb2
 clear hv1 hb2
 go_wp2_with fail
 refine (ae Q2 _ vg (ae B2) (ae HVG2)).mono ?_
 rintro e w3 ⟨v2,rfl,hv2,hb3⟩
 have HV2:=af hv2
 have HV13:=af ((ae HV1).ah hb3)
 have K3:Hid (But [] W w3):=(ae K2).trans' hb3
 have B3:Hid (But [] w w3):=(ae B2).trans' hb3
 clear hv2 hb3
 go_wp2_with fail
 refine (ae OL _ v1 v2 (ae HV13) (ae HV2)).mono ?_
 rintro e w4 ⟨vr,rfl,hvr,hb4⟩
 have K4:But [] W w4:=(ae K3).trans' hb4
 have B4:Hid (But [] w w4):=(ae B3).trans' hb4
 have HVR:=af hvr
 obtain⟨x8,y8,p8,rfl,-⟩:=hvr.agg
 generalize decide (f.num<0)=r8 at *
 have u0:=K4.ag r0 (by simp)
 have u1:=K4.ag r1 (by simp)
 have u2:=K4.ag r2 (by simp)
 have u3:=K4.ag r3 (by simp)
 have uf:∀ j,w4.frozen? ⟨gr,j,none⟩=false:=fun j=>(K4.frozen (p:=⟨gr,j,none⟩) grl (by simp)).trans (fz j)
 have BL4:Hid (Blank w4 gr):=(ae BL).but K4
 clear hvr hb4 K4 r0 r1 r2 r3 fz grl
 go_wp2
 have hBg:But [gr] w4 ((((w4.setCell ⟨gr,0,none⟩ (.bool r8)).setCell ⟨gr,1,none⟩ (.int .u64 x8)).setCell ⟨gr,2,none⟩ (.int .u64 y8)).setCell ⟨gr,3,none⟩ (.pointer p8)):=(((((But.refl [gr] w4).setCell (.inl (by simp)) _).setCell (.inl (by simp)) _).setCell (.inl (by simp)) _).setCell (.inl (by simp)) _)
 have hBf:=((((ae B4).setCell (p:=⟨gr,0,none⟩) (.inr (ae HGR)) (.bool r8)).setCell (p:=⟨gr,1,none⟩) (.inr (ae HGR)) (.int .u64 x8)).setCell (p:=⟨gr,2,none⟩) (.inr (ae HGR)) (.int .u64 y8)).setCell (p:=⟨gr,3,none⟩) (.inr (ae HGR)) (.pointer p8)
 exact bodyPost_ret (v:=.agg #[.bool r8,.int .u64 x8,.int .u64 y8,.pointer p8]) (by simp[results,results238,go_sem,u0,u1,u2,u3]) rfl ⟨_,rfl,(ae BL4).zky (ae HVR) hBg,hBf⟩)
def wrt (s:Bool) (tw:ByteArray) (k:Int) (tb:ByteArray):Value:=.agg #[.bool s,.string tw,.int .u8 k,.string tb,.bool false]
theorem zmq (s:Bool) (tw tb:ByteArray) (w:World) (_h1:tw.size<1000) (_h2:tb.size<1000) :
   Calls prog 235 #[wrt s tw 0 tb] w fun e w'=>e=.returned (.int .i64 ((tw.size:Int)))∧But [] w w':=by(
 unfold wrt
 go_enter func235,ntmps235
 go_wp2
 go_ret
 exact⟨rfl,(But.refl _ _).alloc _⟩)
theorem zlq (s:Bool) (tw tb:ByteArray) (w:World) (_h1:tw.size<1000) (h2:tb.size<1000) :
   Calls prog 236 #[wrt s tw 0 tb] w fun e w'=>e=.returned (.int .i64 (1+(tb.size:Int)))∧But [] w w':=by(
 unfold wrt
 go_enter func236,ntmps236
 go_wp2
 go_ret
 exact⟨rfl,(But.refl _ _).alloc _⟩)
theorem zyp (s:Bool) (tw:ByteArray) (ds:List UInt8) (w:World) (ht:tw.data.toList=ds) (hd:tu ds) (hl:ds.length<1000) :
   Calls prog 237 #[wrt s tw 0 ⟨#[]⟩] w fun e w'=>∃ v1 v2,e=.returned (.tuple #[v1,v2])∧Sl .u64 w' v1 (wd 18446744073709551616 (jk ds))∧Sl .u64 w' v2 (wd 18446744073709551616 (1))∧But [] w w':=by(
 unfold wrt
 have RD:=af (fun W=>zrl tw ds W ht hd (by omega))
 clear ht hd hl
 obtain⟨W,hW⟩:∃ W,W=w.alloc (.cells #[.bool s,.string tw,.int .u8 0,.string ⟨#[]⟩,.bool false] 269):=⟨_,rfl⟩
 have c1:W.cell? ⟨w.heap.size,1,none⟩=some (.string tw):=by rw[hW];simp
 have c2:W.cell? ⟨w.heap.size,2,none⟩=some (.int .u8 0):=by rw[hW];simp
 have c3:W.cell? ⟨w.heap.size,3,none⟩=some (.string ⟨#[]⟩):=by rw[hW];simp
 have c4:W.cell? ⟨w.heap.size,4,none⟩=some (.bool false):=by rw[hW];simp
 have HB:Hid (But [] w W):=by show But _ _ _;rw[hW];exact (But.refl _ _).alloc _
 have HW:=af hW
 clear hW
 go_enter func237,ntmps237
 go_wp2_with fail
 rw[← ae HW]
 clear HW
 generalize w.heap.size=g at *
 refine (ae RD _).mono ?_
 rintro e w1 ⟨v1,rfl,hv1,hb1⟩
 replace c1:=hb1.ag c1 (by simp)
 replace c2:=hb1.ag c2 (by simp)
 replace c3:=hb1.ag c3 (by simp)
 replace c4:=hb1.ag c4 (by simp)
 replace HB:Hid (But [] w w1):=(ae HB).trans' hb1
 have H1:=af hv1
 clear hv1 hb1
 go_wp2_with fail
 refine (jc 1 (by omega) _).mono ?_
 rintro e w2 ⟨v2,rfl,hv2,hb2,-⟩
 replace c1:=hb2.ag c1 (by simp)
 replace c2:=hb2.ag c2 (by simp)
 replace c3:=hb2.ag c3 (by simp)
 replace c4:=hb2.ag c4 (by simp)
 replace HB:Hid (But [] w w2):=(ae HB).trans' hb2
 replace H1:=af ((ae H1).ah hb2)
 have H2:=af hv2
 clear hv2 hb2
 go_wp2
 go_ret2
 exact⟨v1,v2,rfl,ae H1,ae H2,ae HB⟩)
theorem zxz (t:ByteArray) (s:Bool) (k n1 n2:Int) (P:ByteArray→ByteArray→Prop) (h1:n1≤60) (h2:n2≤60) (X Y:Nat) (hY:0<Y) (lx:(wd 18446744073709551616 X).length≤1000000) (ly:(wd 18446744073709551616 Y).length≤1000000) (f:Rat) (hf:f.num*(Y:Int)=sgn s X*(f.den:Int)) (w:World)
   (CU:Hid (∀ W,Calls prog 234 #[.string t] W fun e w'=>∃ tw tb,e=.returned (.tuple #[.agg #[.bool s,.string tw,.int .u8 k,.string tb,.bool false],.int .i64 (-1)])∧P tw tb∧But [] W w'))
   (AB:Hid (∀ tw tb,P tw tb→∀ W,Calls prog 235 #[.agg #[.bool s,.string tw,.int .u8 k,.string tb,.bool false]] W fun e w'=>e=.returned (.int .i64 n1)∧But [] W w'))
   (UN:Hid (∀ tw tb,P tw tb→∀ W,Calls prog 236 #[.agg #[.bool s,.string tw,.int .u8 k,.string tb,.bool false]] W fun e w'=>e=.returned (.int .i64 n2)∧But [] W w'))
   (NU:Hid (∀ tw tb,P tw tb→∀ W,Calls prog 237 #[.agg #[.bool s,.string tw,.int .u8 k,.string tb,.bool false]] W fun e w'=>∃ v1 v2,e=.returned (.tuple #[v1,v2])∧Sl .u64 w' v1 (wd 18446744073709551616 X)∧Sl .u64 w' v2 (wd 18446744073709551616 Y)∧But [] W w')) :
   Calls prog 204 #[.string t] w fun e w'=>∃ v,e=.returned (.tuple #[v,.nilIface])∧am w' v f∧But [] w w':=by(
 have hyl:0<(wd 18446744073709551616 Y).length:=by rw[Nat.pos_iff_ne_zero];intro e;rw[ze (by omega)] at e;omega
 have ON:=af (fun (W:World) (v1 v2:Value) (a:Sl .u64 W v1 (wd 18446744073709551616 X)) (b:Sl .u64 W v2 (wd 18446744073709551616 Y))=>zmd s v1 v2 X Y W a b hY lx ly f hf)
 have d1:decide (60<n1)=false:=decide_eq_false (by omega)
 have d2:decide (60<n2)=false:=decide_eq_false (by omega)
 obtain⟨W,hW⟩:∃ W,W=w.alloc (.cells #[.bool false,.int .u64 0,.int .u64 0,.pointer none] 27):=⟨_,rfl⟩
 have r0:W.cell? ⟨w.heap.size,0,none⟩=some (.bool false):=by rw[hW];simp
 have r1:W.cell? ⟨w.heap.size,1,none⟩=some (.int .u64 0):=by rw[hW];simp
 have r2:W.cell? ⟨w.heap.size,2,none⟩=some (.int .u64 0):=by rw[hW];simp
 have r3:W.cell? ⟨w.heap.size,3,none⟩=some (.pointer none):=by rw[hW];simp
 have fz:∀ j,W.frozen? ⟨w.heap.size,j,none⟩=false:=fun j=>by rw[hW];simp
 have BL:Hid (Blank W w.heap.size):=⟨r0,r1,r2,r3,fun j hj=>by rw[hW,World.cell?_alloc_new];simp;omega⟩
 have HB:Hid (But [] w W):=by show But _ _ _;rw[hW];exact (But.refl _ _).alloc _
 have HW:=af hW
 clear hW hf lx ly hY
 go_enter func204,ntmps204
 go_wp2_with fail
 rw[← ae HW]
 obtain⟨gr,hgr⟩:∃ gr,gr=w.heap.size:=⟨_,rfl⟩
 rw[← hgr] at r0 r1 r2 r3 fz BL
 rw[← hgr]
 have HGR:Hid (w.heap.size≤gr):=by show _≤_;omega
 clear hgr HW
 have grl:gr<W.heap.size:=ai r0
 refine (ae CU _).mono ?_
 rintro e w1 ⟨tw,tb,rfl,hP,hb1⟩
 have AB':=af (ae AB tw tb hP)
 have UN':=af (ae UN tw tb hP)
 have NU':=af (ae NU tw tb hP)
 have KW:=af hb1
 clear AB UN NU CU hP hb1
 go_wp2_with fail
 obtain⟨W1,hW1⟩:∃ W1,W1=w1.alloc (.cells #[.bool s,.string tw,.int .u8 k,.string tb,.bool false] 269):=⟨_,rfl⟩
 have c0:W1.cell? ⟨w1.heap.size,0,none⟩=some (.bool s):=by rw[hW1];simp
 have c1:W1.cell? ⟨w1.heap.size,1,none⟩=some (.string tw):=by rw[hW1];simp
 have c2:W1.cell? ⟨w1.heap.size,2,none⟩=some (.int .u8 k):=by rw[hW1];simp
 have c3:W1.cell? ⟨w1.heap.size,3,none⟩=some (.string tb):=by rw[hW1];simp
 have c4:W1.cell? ⟨w1.heap.size,4,none⟩=some (.bool false):=by rw[hW1];simp
 have KW1:Hid (But [] W W1):=by show But _ _ _;rw[hW1];exact (ae KW).alloc _
 rw[← hW1]
 clear hW1 KW
 generalize w1.heap.size=gw at *
 refine (ae AB' _).mono ?_
 rintro e w2 ⟨rfl,hb⟩
 replace c0:=hb.ag c0 (by simp)
 replace c1:=hb.ag c1 (by simp)
 replace c2:=hb.ag c2 (by simp)
 replace c3:=hb.ag c3 (by simp)
 replace c4:=hb.ag c4 (by simp)
 replace KW1:Hid (But [] W w2):=(ae KW1).trans' hb
 clear hb
 go_wp2_with fail
 refine (ae UN' _).mono ?_
 rintro e w3 ⟨rfl,hb⟩
 replace c0:=hb.ag c0 (by simp)
 replace c1:=hb.ag c1 (by simp)
 replace c2:=hb.ag c2 (by simp)
 replace c3:=hb.ag c3 (by simp)
 replace c4:=hb.ag c4 (by simp)
 replace KW1:Hid (But [] W w3):=(ae KW1).trans' hb
 clear hb
 go_wp2_with fail
 refine (ae NU' _).mono ?_
 rintro e w4 ⟨v1,v2,rfl,hv1,hv2,hb⟩
 replace c0:=hb.ag c0 (by simp)
 replace c1:=hb.ag c1 (by simp)
 replace c2:=hb.ag c2 (by simp)
 replace c3:=hb.ag c3 (by simp)
 replace c4:=hb.ag c4 (by simp)
 replace KW1:Hid (But [] W w4):=(ae KW1).trans' hb
 have H1:=af hv1
 have H2:=af hv2
 obtain⟨a2,e2,rfl,-,-⟩:=hv2
 clear hv1
 clear hb
 generalize (wd 18446744073709551616 Y).length=ny at *
 have n0:((ny:Int)==0)=false:=beq_eq_false_iff_ne.2 (by omega)
 go_wp2_with fail
 refine (ae ON _ v1 _ (ae H1) (ae H2)).mono ?_
 rintro e w5 ⟨vr,rfl,hvr,hb⟩
 have K5:But [] W w5:=(ae KW1).trans' hb
 have B5:Hid (But [] w w5):=(ae HB).trans' K5
 have HVR:=af hvr
 obtain⟨x8,y8,p8,rfl,-⟩:=hvr.agg
 generalize decide (f.num<0)=r8 at *
 have u0:=K5.ag r0 (by simp)
 have u1:=K5.ag r1 (by simp)
 have u2:=K5.ag r2 (by simp)
 have u3:=K5.ag r3 (by simp)
 have uf:∀ j,w5.frozen? ⟨gr,j,none⟩=false:=fun j=>(K5.frozen (p:=⟨gr,j,none⟩) grl (by simp)).trans (fz j)
 have BL5:Hid (Blank w5 gr):=(ae BL).but K5
 clear hvr hb K5 r0 r1 r2 r3 fz grl c0 c1 c2 c3 c4
 go_wp2
 have hBg:But [gr] w5 ((((w5.setCell ⟨gr,0,none⟩ (.bool r8)).setCell ⟨gr,1,none⟩ (.int .u64 x8)).setCell ⟨gr,2,none⟩ (.int .u64 y8)).setCell ⟨gr,3,none⟩ (.pointer p8)):=(((((But.refl [gr] w5).setCell (.inl (by simp)) _).setCell (.inl (by simp)) _).setCell (.inl (by simp)) _).setCell (.inl (by simp)) _)
 have hBf:=((((ae B5).setCell (p:=⟨gr,0,none⟩) (.inr (ae HGR)) (.bool r8)).setCell (p:=⟨gr,1,none⟩) (.inr (ae HGR)) (.int .u64 x8)).setCell (p:=⟨gr,2,none⟩) (.inr (ae HGR)) (.int .u64 y8)).setCell (p:=⟨gr,3,none⟩) (.inr (ae HGR)) (.pointer p8)
 exact bodyPost_ret (v:=.tuple #[.agg #[.bool r8,.int .u64 x8,.int .u64 y8,.pointer p8],.nilIface]) (by simp[results,results204,go_sem,u0,u1,u2,u3]) rfl ⟨_,rfl,(ae BL5).zky (ae HVR) hBg,hBf⟩)
theorem zuo {ds:List UInt8} (hd:tu ds) (hl:ds.length≤1000000):(wd 18446744073709551616 (jk ds)).length≤1000000 :=
 Nat.le_trans (aj (B:=18446744073709551616) (by omega) _ ds.length (Nat.lt_of_lt_of_le (zjm hd) (Nat.pow_le_pow_left (by omega) _))) hl
theorem zar {t:ByteArray} {ds:List UInt8} (h:t.data.toList=ds):t.size=ds.length:=by rw[← h];simp
def sg (s:Bool):List UInt8:=if s then [45] else []
theorem zrf (t:ByteArray) (s:Bool) (ds:List UInt8) (w:World) (ht:t.data.toList=sg s++ds) (hd:tu ds) (h0:0<ds.length) (hl:ds.length≤60) (f:Rat) (hf:f.num=sgn s (jk ds)*(f.den:Int)) :
   Calls prog 204 #[.string t] w fun e w'=>∃ v,e=.returned (.tuple #[v,.nilIface])∧am w' v f∧But [] w w':=by(
 refine zxz t s 0 (ds.length:Int) 1 (fun tw tb=>tw.data.toList=ds∧tb=⟨#[]⟩) (by omega) (by omega) (jk ds) 1 (by omega) (zuo hd (by omega)) (Nat.le_trans (aj (by omega) _ 1 (by omega)) (by omega)) f (by simpa using hf) w ?_ ?_ ?_ ?_
 ·(
 intro W
 cases s
 ·refine (zzm t ds W ht hd h0 (by omega)).mono ?_
  rintro e w' ⟨tw,rfl,h1,h2⟩
  exact⟨tw,⟨#[]⟩,rfl,⟨h1,rfl⟩,h2⟩
 ·refine (zmn t ds W ht hd h0 (by omega)).mono ?_
  rintro e w' ⟨tw,rfl,h1,h2⟩
  exact⟨tw,⟨#[]⟩,rfl,⟨h1,rfl⟩,h2⟩)
 ·rintro tw tb ⟨h1,rfl⟩ W
  have h:=zmq s tw ⟨#[]⟩ W (by rw[zar h1];omega) (by decide)
  rw[zar h1] at h
  exact h
 ·rintro tw tb ⟨h1,rfl⟩ W
  exact zlq s tw ⟨#[]⟩ W (by rw[zar h1];omega) (by decide)
 ·rintro tw tb ⟨h1,rfl⟩ W
  exact zyp s tw ds W h1 hd (by omega))
end Go.Proofs.YtagmkkiagjmimaaGreatDoor
