/- The lower number of a fraction, read off -/
import Derived.Test.YtlckjpelcmjimaaGreatDoorKPF8
import Derived.Test.YtlckjpelcmjimaaGreatDoorKPQ3
import Derived.Test.YtlckjpelcmjimaaGreatDoorKPQ5
namespace Go.Proofs.YtlckjpelcmjimaaGreatDoor
open Go.RowKit
set_option maxHeartbeats 16000000
set_option maxRecDepth 100000
theorem floor_cmp (f:Rat) (r:Int) (hr:r=cmpZ (f.num*((((fl f:Int):Rat)).den:Int)) (((fl f:Int):Rat).num*(f.den:Int))):(r==0)=decide (f.den=1):=by
 obtain ⟨e1,e2⟩:=bd (fl f)
 rw [e1,e2] at hr
 by_cases h:f.den=1
 ·have hw:=(fl_whole f h).1
  rw [hw,h] at hr
  rw [hr,decide_eq_true h]
  simp [cmpZ]
 ·rw [decide_eq_false h,beq_eq_false_iff_ne]
  intro e
  rw [e] at hr
  unfold cmpZ at hr
  split at hr
  ·omega
  ·split at hr
   ·rename_i h1 h2
    have h3:=cop_mod h
    have h4:f.num=fl f*(f.den:Int):=by omega
    apply h3
    rw [h4,Int.natAbs_mul,Int.natAbs_natCast]
    exact Nat.mul_mod_left _ _
   ·omega
theorem txt_cut (f:Rat) (h:f.den≠1):∃ pre:List UInt8,(fracTxt (decide (f.num<0)) f.num.natAbs f.den).data.toList=pre++47::Lib.decDigits f.den∧(47:UInt8) ∉ pre:=by
 have hd:(47:UInt8) ∉ Lib.decDigits f.num.natAbs:=fun hm=>by
  have:=(dec_digits f.num.natAbs).1 _ hm
  revert this
  decide
 refine ⟨(if decide (f.num<0)=true then [45] else [])++Lib.decDigits f.num.natAbs,?_,?_⟩
 ·unfold fracTxt
  rw [if_neg h]
  by_cases hs:f.num<0
  ·simp [hs]
  ·simp [hs]
 ·by_cases hs:f.num<0
  ·simp [hs];exact hd
  ·simp [hs];exact hd
theorem nat_frac (d:Nat):(((d:Int):Rat)).num=sgn false d*((((d:Int):Rat)).den:Int):=by
 obtain ⟨e1,e2⟩:=bd (d:Int)
 rw [e1,e2]
 simp [sgn]
theorem ten_pow (n:Nat):rpow ((10:Int):Rat) n=(((10^n:Nat):Int):Rat):=by
 obtain ⟨e1,e2⟩:=rpow_parts ((10:Int):Rat) n
 obtain ⟨i1,i2⟩:=bd (10:Int)
 obtain ⟨j1,j2⟩:=bd ((10^n:Nat):Int)
 rw [i1] at e1
 rw [i2,Nat.one_pow] at e2
 apply Rat.ext
 ·rw [e1,j1];simp
 ·rw [e2,j2]
theorem nat_len (d m:Nat) (h:d≤m) {L:Nat} (hL:(wd 18446744073709551616 m).length≤L) (h1:1≤L):Len (((d:Nat):Int):Rat) L:=by
 obtain ⟨e1,e2⟩:=bd (d:Int)
 refine ⟨?_,?_⟩
 ·rw [e1,Int.natAbs_natCast]
  exact Nat.le_trans (ao h) hL
 ·rw [e2]
  exact Nat.le_trans (aj (by omega) _ 1 (by omega)) h1
theorem take_more (ds:List UInt8) (j n:Nat):dval (ds.take (j+n))=dval (ds.take j)*10^((ds.drop j).take n).length+dval ((ds.drop j).take n):=by
 rw [List.take_add,dval_append]
theorem dval_take (ds:List UInt8) (j:Nat):dval (ds.take j)≤dval ds:=by
 have h:=dval_append (ds.take j) (ds.drop j)
 rw [List.take_append_drop] at h
 rw [h]
 exact Nat.le_trans (Nat.le_mul_of_pos_right _ (Nat.pow_pos (by omega))) (Nat.le_add_right _ _)
theorem nat_step (a b c d:Nat) (h:d=a*b+c):(((a:Nat):Int):Rat)*(((b:Nat):Int):Rat)+(((c:Nat):Int):Rat)=(((d:Nat):Int):Rat):=by
 subst h
 simp
theorem fl_lenK {f:Rat} {n:Nat} (h:Len f n) (hn:0<n):Len ((fl f:Int):Rat) (n+1):=by
 obtain ⟨h1,h2⟩:=bd (fl f)
 have h3:=h.lt
 have hb:(fl f).natAbs≤f.num.natAbs+1:=by
  by_cases hd:f.den=1
  ·rw [(fl_whole f hd).1];omega
  ·rw [fl_abs f hd,sgn_abs]
   have:=Nat.div_le_self f.num.natAbs f.den
   split <;> omega
 refine len_of (m:=n+1) (n:=1) ?_ (by rw [h2,Nat.pow_one];omega) (n+1) (Nat.le_refl _) (by omega)
 rw [h1,Nat.pow_succ]
 have h4:0 < 18446744073709551616^n:=Nat.pow_pos (by omega)
 omega
def strLen (v:Value):Nat:=match v with
 | .string t=>t.size
 | _=>0
theorem lower_any (v:Value) (f:Rat) (w:World) (m:Int) (hf:am w v f) (lf:Len f 400000) (htab:Lib.TabIs Tryz.prog w "internal/strconv.uint64pow10" .u64 Lib.pow10Tab) (hm:w.cell? ⟨4,0,none⟩=some (.int .i64 m)) :
  Calls Tryz.prog 156 #[v] w fun e w'=>∃ v',e=.returned v'∧am w' v' (((f.den:Nat):Int):Rat)∧But [] w w':=by
 obtain ⟨x1,y1,p1,rfl,-⟩:=id hf.agg
 generalize hsf:decide (f.num<0)=s1 at *
 obtain ⟨W,hW⟩:∃ W,W=(w.alloc (.cells #[.bool s1,.int .u64 x1,.int .u64 y1,.pointer p1] 29)).alloc (.cells #[.bool false,.int .u64 0,.int .u64 0,.pointer none] 29):=⟨_,rfl⟩
 obtain ⟨tA,tC,fz,hB⟩:=two_new w W _ _ _ hW
 have a0:=tA 0
 have a1:=tA 1
 have a2:=tA 2
 have a3:=tA 3
 have r0:=tC 0
 have r1:=tC 1
 have r2:=tC 2
 have r3:=tC 3
 simp only [List.getElem?_toArray,List.getElem?_cons_zero,List.getElem?_cons_succ] at a0 a1 a2 a3 r0 r1 r2 r3
 obtain ⟨r,hr⟩:∃ r,r=cmpZ (f.num*((((fl f:Int):Rat)).den:Int)) (((fl f:Int):Rat).num*(f.den:Int)):=⟨_,rfl⟩
 have HR0:=af (floor_cmp f r hr)
 have lfl:Len ((fl f:Int):Rat) 33554431:=(fl_lenK lf (by omega)).mono (by omega)
 have FL:=af (fun W' (hb:But [] w W')=>floor_any _ f W' (hf.but hb) (lf.mono (by omega)))
 have CM:=af (fun W' (hb:But [] w W') v' (hv':am W' v' ((fl f:Int):Rat))=>fracCmp_any _ v' f _ W' (hf.but hb) hv' (lf.mono (by omega)) lfl r hr)
 have HF:=af hf
 have HTAB:=af htab
 have HM:=af hm
 have LF:=af lf
 have HB:=af hB
 have HS:=af hsf
 have C1:Hid (P4 W w.heap.size s1 x1 y1 p1):=⟨a0,a1,a2,a3⟩
 have C2:Hid (ax W (w.heap.size+1) 0):=⟨⟨false,0,0,none,⟨r0,r1,r2,r3⟩,zero_at _⟩,fz⟩
 clear lfl hf htab hm lf hB a0 a1 a2 a3 r0 r1 r2 r3 tA tC hr hsf fz
 go_enter Tryz.func156,Tryz.ntmps156
 go_wp2
 rw [← hW]
 clear hW
 have ho2:w.heap.size≤w.heap.size+1:=by omega
 have O2:=af ho2
 have l12:w.heap.size≠w.heap.size+1:=by omega
 generalize hg2:w.heap.size+1=g2 at *
 generalize hg1:w.heap.size=g1 at *
 refine lower_region1 1 _ _ W s1 x1 y1 p1 r ((fl f:Int):Rat) (by simp) g1 (by simp [Act.eval]) (ae C1) (fun w' hb=>ae FL w' ((ae HB).trans' hb)) (fun w' hb v' hv'=>ae CM w' ((ae HB).trans' hb) v' hv') ?_
 intro w1 v2 hb1
 simp only [bb,List.foldl_cons,List.foldl_nil,Act.put,List.setIfInBounds_toArray,List.set_cons_zero,List.set_cons_succ]
 rw [ae HR0]
 have B1:=af ((ae HB).trans' hb1)
 have K1:=af ((ae C1).but hb1 (by simp))
 have K2:=af ((ae C2).but hb1)
 clear hb1 C1 C2 HB FL CM HR0
 by_cases hd:f.den=1
 ·rw [decide_eq_true hd]
  obtain ⟨ws,wx,FW,CW⟩:=whole_is 1 (by omega) (by omega)
  have CWH:=af CW
  have FWH:=af FW
  clear CW FW
  obtain ⟨⟨s2,x2,y2,p2,⟨c0,c1,c2,c3⟩,-⟩,z2⟩:=ae K2
  go_wp2_with fail
  refine (ae CWH _).mono ?_
  rintro e w2 ⟨rfl,hb2⟩
  have B2:=af hb2
  have l2:g2<w1.heap.size:=ai c0
  have z2':∀ j,w2.frozen? ⟨g2,j,none⟩=false:=fun j=>(hb2.frozen (p:=⟨g2,j,none⟩) l2 (by simp)).trans (z2 j)
  replace c0:=hb2.ag c0 (by simp)
  replace c1:=hb2.ag c1 (by simp)
  replace c2:=hb2.ag c2 (by simp)
  replace c3:=hb2.ag c3 (by simp)
  clear hb2 CWH z2
  have P2:Hid (P4 w2 g2 s2 x2 y2 p2):=⟨c0,c1,c2,c3⟩
  go_wp2
  have hP:=au w2 g2 ws wx 0 none
  obtain ⟨m0,m1,m2,m3⟩:=put4_p4 w2 g2 ws wx 0 none (ae P2)
  have hF:But [] w (put4 w2 g2 ws wx 0 none):=((ae B1).trans' (ae B2)).trans hP (fun x hx=>by simp at hx;subst hx;exact .inr (by omega))
  change bodyPost _ _ _ _ _ (put4 w2 g2 ws wx 0 none)
  generalize put4 w2 g2 ws wx 0 none=F at *
  exact bodyPost_ret (v:=.agg #[.bool ws,.int .u64 wx,.int .u64 0,.pointer none]) (by simp [results,Tryz.results156,go_sem,m0,m1,m2,m3]) rfl ⟨_,rfl,by rw [hd];exact ae FWH F,hF⟩
 ·rw [decide_eq_false hd]
  obtain ⟨t,ht⟩:∃ t,t=fracTxt (decide (f.num<0)) f.num.natAbs f.den:=⟨_,rfl⟩
  obtain ⟨pre,hpre,hno⟩:=txt_cut f hd
  rw [← ht] at hpre
  have hts:t.size<4294967281:=by
   have e:t.size=t.data.toList.length:=by simp
   have d1:=dec_short f.den (Nat.le_trans (ae LF).2 (by omega))
   have d2:=dec_short f.num.natAbs (Nat.le_trans (ae LF).1 (by omega))
   rw [e,ht]
   unfold fracTxt
   by_cases hs:f.num<0
   ·simp [hs,hd];omega
   ·simp [hs,hd];omega
  have TX:=af (fun W' (hb:But [] w W')=>fracText_len _ f W' ((ae HF).but hb) ((ae LF).mono (by omega)) (TabIs.but (ae HTAB) hb) t ht)
  have CU:=af (fun W' (hb:But [] w W')=>Tryz.strings_Cut t 47 pre (Lib.decDigits f.den) m W' hpre hno hts (hb.ag (ae HM) (by simp)))
  obtain ⟨hdg,hval,hpos⟩:=dec_digits f.den
  generalize hds:Lib.decDigits f.den=ds at *
  have HDG:=af hdg
  have HVAL:=af hval
  have HPOS:=af hpos
  obtain ⟨c0,c1,c2,c3⟩:=ae K1
  clear hpre hno hts ht hds hdg hval hpos HTAB HM
  go_wp2_with fail
  refine (ae TX _ (ae B1)).mono ?_
  rintro e w2 ⟨rfl,hb2⟩
  have B2:=af ((ae B1).trans' hb2)
  have K2':=af ((ae K2).but hb2)
  clear K2 K1 c0 c1 c2 c3 hb2 B1 TX
  go_wp2_with fail
  refine (ae CU _ (ae B2)).mono ?_
  rintro e w3 ⟨rfl,nd,rfl⟩
  have B3:Hid (But [] w (w2.drewN nd)):=(ae B2).drewN nd
  have K3:=af ((ae K2').but ((But.refl [] w2).drewN nd))
  generalize w2.drewN nd=w3 at *
  clear B2 K2' CU
  go_wp2
  have V6:=af (ax.new w3 false 0 0 none 0 29 (zero_at _))
  have bV:But [] w3 (w3.alloc (.cells #[.bool false,.int .u64 0,.int .u64 0,.pointer none] 29)):=(But.refl _ _).alloc _
  have KV:=af ((ae K3).but bV)
  have BV:=af ((ae B3).trans' bV)
  have o6:g2<w3.heap.size:=(ae K3).lt
  have q6:w.heap.size≤w3.heap.size:=(ae B3).size
  clear bV K3 B3
  generalize hg6:w3.heap.size=g6 at *
  generalize w3.alloc (.cells #[.bool false,.int .u64 0,.int .u64 0,.pointer none] 29)=V at *
  clear hg6
  go_loopw [4] (fun dv wr=>∃ (j:Nat) (td:ByteArray),dv=.string td∧j≤ds.length∧Hid (td.data.toList=ds.drop j)∧Hid (ax wr g6 (((dval (ds.take j):Nat):Int):Rat)∧ax wr g2 0∧But [] w wr)) (fun dv _=>strLen dv)
  case atStart=>exact ⟨0,_,rfl,Nat.zero_le _,by show _=_;simp,ae V6,ae KV,ae BV⟩
  case round =>
   obtain ⟨j,td,rfl,hj,HTD,HI⟩:=hrel
   rename World=>wr
   clear V6 KV BV
   obtain ⟨k,hk⟩:∃ k,k=ds.length-j:=⟨_,rfl⟩
   have hsz:td.size=k:=by rw [size_list (ae HTD),List.length_drop,hk]
   by_cases hlt:j<ds.length
   ·have h0:0<k:=by omega
    obtain ⟨n,hn⟩:∃ n,n=Nat.min k 60:=⟨_,rfl⟩
    have hn60:n≤60:=by rw [hn];exact Nat.min_le_right _ _
    have hnk:n≤k:=by rw [hn];exact Nat.min_le_left _ _
    have hn1:0<n:=by rw [hn];exact Nat.lt_min.2 ⟨h0,by omega⟩
    have hmin:min (k:Int) 60=(n:Int):=by
     have e:n=min k 60:=hn
     omega
    have HK:=af hk
    have hnj:j+n≤ds.length:=by omega
    have e1:(td.extract 0 n).data.toList=(ds.drop j).take n:=by
     rw [← ae HTD]
     simp [ByteArray.data_extract,List.extract_eq_take_drop]
    have e2:(td.extract n k).data.toList=ds.drop (j+n):=by
     rw [← List.drop_drop,← ae HTD]
     simp only [ByteArray.data_extract,List.extract_eq_take_drop,Array.toList_extract]
     exact List.take_of_length_le (by rw [List.length_drop];have:=size_list (t:=td) rfl;omega)
    have E2:=af e2
    have lp:((ds.drop j).take n).length=n:=by rw [List.length_take,List.length_drop];omega
    have LPc:=af lp
    have dp:Digits ((ds.drop j).take n):=fun x hx=>ae HDG x (List.mem_of_mem_drop (List.mem_of_mem_take hx))
    have PA:=af (fun W=>parse_whole (td.extract 0 n) false ((ds.drop j).take n) W (by rw [e1];rfl) dp (by omega) (by omega) _ (nat_frac (dval ((ds.drop j).take n))))
    obtain ⟨ws,wx,FW,CW⟩:=whole_is 10 (by omega) (by omega)
    have CWH:=af CW
    have PW:=af (fun W=>fracPow_up _ _ n W (FW W) (by omega) ((len_int 10 (by decide)).mono (by omega)))
    have H6:=af (ae HI).1
    have H2:=af (ae HI).2.1
    have HBW:=af (ae HI).2.2
    clear hn hk e1 e2 lp dp CW HI
    go_wp2_with fail
    refine (ae PA _).mono ?_
    rintro e w4 ⟨v4,rfl,hv4,hb4⟩
    obtain ⟨x4,y4,p4,rfl,-⟩:=id hv4.agg
    generalize hs4:decide ((((dval ((ds.drop j).take n):Nat):Int):Rat).num<0)=s4 at *
    clear hs4
    have B4:=af hb4
    have HV4:=af hv4
    have A4:=af (ax.new w4 s4 x4 y4 p4 _ 29 hv4)
    have bA4:Hid (But [] w4 (w4.alloc (.cells #[.bool s4,.int .u64 x4,.int .u64 y4,.pointer p4] 29))):=(But.refl _ _).alloc _
    clear hv4 hb4 PA
    go_wp2_with fail
    refine (ae CWH _).mono ?_
    rintro e w5 ⟨rfl,hb5⟩
    have B5:=af hb5
    clear hb5 CWH
    go_wp2_with fail
    refine (ae PW _).mono ?_
    rintro e w6 ⟨v6,rfl,hv6,hb6⟩
    obtain ⟨x6,y6,p6,rfl,-⟩:=id hv6.agg
    generalize hs6:decide ((rpow ((10:Int):Rat) n).num<0)=s6 at *
    clear hs6
    rw [ten_pow] at hv6
    have B6:=af hb6
    have A6:=af (ax.new w6 s6 x6 y6 p6 _ 29 hv6)
    have bA6:Hid (But [] w6 (w6.alloc (.cells #[.bool s6,.int .u64 x6,.int .u64 y6,.pointer p6] 29))):=(But.refl _ _).alloc _
    clear hv6 hb6 PW
    go_wp2
    obtain ⟨U,hU⟩:∃ U,U=w6.alloc (.cells #[.bool s6,.int .u64 x6,.int .u64 y6,.pointer p6] 29):=⟨_,rfl⟩
    rw [← hU] at A6 bA6
    rw [← hU]
    have b46:But [] (w4.alloc (.cells #[.bool s4,.int .u64 x4,.int .u64 y4,.pointer p4] 29)) U:=((ae B5).trans' (ae B6)).trans' (ae bA6)
    have bU:But [] wr U:=((ae B4).trans' (ae bA4)).trans' b46
    have BU:=af bU
    have D8:=af ((ae A4).but b46)
    have D6:=af ((ae H6).but bU)
    have D2:=af ((ae H2).but bU)
    have DB:=af ((ae HBW).trans' bU)
    have l8:g6<w4.heap.size:=Nat.lt_of_lt_of_le (ae H6).lt (ae B4).size
    generalize hg8:w4.heap.size=g8 at *
    generalize hg10:w6.heap.size=g10 at *
    clear hU B4 bA4 A4 B5 B6 bA6 b46 bU H6 H2 HBW hg8 hg10 HV4
    obtain ⟨⟨t6,a6,b6,q6',c6,hf6⟩,z6⟩:=ae D6
    obtain ⟨⟨t8,a8,b8,q8,c8,hf8⟩,-⟩:=ae D8
    obtain ⟨⟨t10,a10,b10,q10,c10,hf10⟩,-⟩:=ae A6
    have ltk:=dval_take ds j
    have ltn:=dval_take ds (j+n)
    have stp:=take_more ds j n
    rw [ae LPc] at stp
    have lden:(wd 18446744073709551616 (dval ds)).length≤400000:=by rw [ae HVAL];exact (ae LF).2
    have ten4:Len (((10^n:Nat):Int):Rat) 1000000:=nat_len (10^n) (10^60) (Nat.pow_le_pow_right (by omega) hn60) (Nat.le_trans (aj (by omega) _ 4 (by decide)) (by omega)) (by omega)
    have lmul:Len ((((dval (ds.take j):Nat):Int):Rat)*(((10^n:Nat):Int):Rat)) 400000:=by
     have e:(((dval (ds.take j):Nat):Int):Rat)*(((10^n:Nat):Int):Rat)=(((dval (ds.take j)*10^n:Nat):Int):Rat):=by simp
     rw [e]
     exact nat_len _ (dval ds) (by omega) lden (by omega)
    refine lower_region9 9 _ _ U t6 a6 b6 q6' t10 a10 b10 q10 t8 a8 b8 q8 _ _ _ g6 g8 g10 (by simp) (by simp [Act.eval]) c6 z6 (by simp [Act.eval]) (by simp [Act.eval]) c6 c10 c8 (fun w' hb=>fracMul_any _ _ _ _ w' (hf6.but hb) (hf10.but hb) (nat_len _ (dval ds) ltk (Nat.le_trans lden (by omega)) (by omega)) ten4) (fun w' hb v' hv'=>fracAdd_gen 400000 400000 (by omega) _ _ _ _ w' hv' (hf8.but hb) lmul (nat_len _ (dval ds) (by omega) lden (by omega))) ?_
    intro w7 v2' s7 x7 y7 p7 hb7 hf7
    simp only [bb,List.foldl_cons,List.foldl_nil,Act.put,List.setIfInBounds_toArray,List.set_cons_zero,List.set_cons_succ]
    rw [nat_step _ _ _ _ stp] at hf7
    have hP:=au w7 g6 s7 x7 y7 p7
    have J6:=af (((ae D6).but hb7).put hf7)
    have J2:=af (((ae D2).but hb7).beside hP (by simp;omega) (fun g hg=>by simp at hg;subst hg;exact ((ae D6).but hb7).bool))
    have JB:=af (((ae DB).trans' hb7).trans hP (fun x hx=>by simp at hx;subst hx;exact .inr q6))
    generalize put4 w7 g6 s7 x7 y7 p7=V7 at *
    clear hP hf7 hb7 D6 D2 DB D8 A6 c6 c8 c10 hf6 hf8 hf10 z6 ltk ltn stp lden ten4 lmul BU
    go_wp2
    refine ⟨⟨j+n,_,rfl,hnj,E2,ae J6,ae J2,ae JB⟩,?_⟩
    show (td.extract n k).size<td.size
    have hx:=size_list (ae E2)
    rw [List.length_drop] at hx
    have:=ae HK
    omega
   ·obtain rfl:j=ds.length:=by omega
    have k0:k=0:=by omega
    obtain ⟨⟨⟨t6,a6,b6,q6',⟨d0,d1,d2,d3⟩,hf6⟩,z6⟩,⟨⟨t2,a2,b2,q2,⟨c0,c1,c2,c3⟩,-⟩,z2⟩,hbw⟩:=ae HI
    rw [List.take_length,ae HVAL] at hf6
    have HF6:=af hf6
    have HBW:=af hbw
    have P2:Hid (P4 wr g2 t2 a2 b2 q2):=⟨c0,c1,c2,c3⟩
    clear HI hf6 hbw hk
    go_wp2
    have hP:=au wr g2 t6 a6 b6 q6'
    obtain ⟨m0,m1,m2,m3⟩:=put4_p4 wr g2 t6 a6 b6 q6' (ae P2)
    have hF:But [] w (put4 wr g2 t6 a6 b6 q6'):=(ae HBW).trans hP (fun x hx=>by simp at hx;subst hx;exact .inr (by omega))
    have hff:=(ae HF6).over (ae P2).1 hP
    change bodyPost _ _ _ _ _ (put4 wr g2 t6 a6 b6 q6')
    generalize put4 wr g2 t6 a6 b6 q6'=F at *
    exact bodyPost_ret (v:=.agg #[.bool t6,.int .u64 a6,.int .u64 b6,.pointer q6']) (by simp [results,Tryz.results156,go_sem,m0,m1,m2,m3]) rfl ⟨_,rfl,hff,hF⟩
end Go.Proofs.YtlckjpelcmjimaaGreatDoor
