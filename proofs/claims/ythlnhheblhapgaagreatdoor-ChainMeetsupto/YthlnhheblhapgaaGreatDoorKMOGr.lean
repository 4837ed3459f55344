/- Out of OG: what needs no more than these -/
import Derived.Test.YthlnhheblhapgaaGreatDoorKMBW
import Derived.Test.YthlnhheblhapgaaGreatDoorKMF10
import Derived.Test.YthlnhheblhapgaaGreatDoorKMQ2
import Derived.Test.YthlnhheblhapgaaGreatDoorKMQ5
namespace Go.Proofs.YthlnhheblhapgaaGreatDoor
open Go.RowKit
theorem len_zero (n:Nat) (h:1≤n):Len 0 n:=⟨Nat.le_trans (wd_length_le (by omega) _ 1 (by decide)) h,Nat.le_trans (wd_length_le (by omega) _ 1 (by decide)) h⟩
theorem len_sgR (c:Nat) (f:Nat→Rat) (h:∀ k,Len (f k) c):∀ k,Len (sgR f k) (k*(c+1)+1)
 | 0=>len_zero _ (by omega)
 | k+1=>by
  have ih:=len_sgR c f h k
  show Len (sgR f k+f k) _
  exact len_add ih (h k) _ (by rw [Nat.succ_mul];omega)
def atR (fs:List Rat) (k:Nat):Rat:=fs[k]?.getD 0
theorem len_at {fs:List Rat} {c:Nat} (h:∀ f ∈ fs,Len f c) (hc:1≤c) (k:Nat):Len (fs[k]?.getD 0) c:=by
 by_cases hk:k<fs.length
 ·rw [List.getElem?_eq_getElem hk];exact h _ (List.getElem_mem hk)
 ·rw [List.getElem?_eq_none (by omega)];exact len_zero _ hc
theorem cmp_same (x y:Rat) (r:Int) (hr:r=cmpZ (x.num*(y.den:Int)) (y.num*(x.den:Int))):(r != 0)=!decide (x=y):=by
 have h1:r=0↔x=y:=by
  have hle:x.num*(y.den:Int)=y.num*(x.den:Int)↔x=y:=by
   constructor
   ·intro h
    exact Rat.le_antisymm ((Rat.le_iff _ _).2 (by omega)) ((Rat.le_iff _ _).2 (by omega))
   ·intro h
    rw [h]
  rw [← hle,hr]
  unfold cmpZ
  constructor
  ·intro h
   split at h
   ·omega
   ·split at h
    ·assumption
    ·omega
  ·intro h
   rw [if_neg (by omega),if_pos h]
 by_cases h:x=y
 ·rw [h1.2 h,decide_eq_true h];rfl
 ·rw [decide_eq_false h]
  have h2:r≠0:=fun e=>h (h1.1 e)
  simpa using h2
end Go.Proofs.YthlnhheblhapgaaGreatDoor

namespace Go.Proofs.YthlnhheblhapgaaGreatDoor
open Go.RowKit
set_option maxHeartbeats 16000000
set_option maxRecDepth 100000
theorem floor_cmp (f:Rat) (r:Int) (hr:r=cmpZ (f.num*((((fl f:Int):Rat)).den:Int)) (((fl f:Int):Rat).num*(f.den:Int))):(r==0)=decide (f.den=1):=by
 obtain ⟨e1,e2⟩:=int_parts (fl f)
 rw [e1,e2] at hr
 by_cases h:f.den=1
 ·have hw:=(fl_whole f h).1
  rw [hw,h] at hr
  rw [hr,decide_eq_true h]
  simp [cmpZ]
 ·rw [decide_eq_false h,beq_eq_false_iff_ne]
  intro e
  rw [e] at hr
  unfold cmpZ at hr
  split at hr
  ·omega
  ·split at hr
   ·rename_i h1 h2
    have h3:=cop_mod h
    have h4:f.num=fl f*(f.den:Int):=by omega
    apply h3
    rw [h4,Int.natAbs_mul,Int.natAbs_natCast]
    exact Nat.mul_mod_left _ _
   ·omega
theorem txt_cut (f:Rat) (h:f.den≠1):∃ pre:List UInt8,(fracTxt (decide (f.num<0)) f.num.natAbs f.den).data.toList=pre++47::Lib.decDigits f.den∧(47:UInt8) ∉ pre:=by
 have hd:(47:UInt8) ∉ Lib.decDigits f.num.natAbs:=fun hm=>by
  have:=(dec_digits f.num.natAbs).1 _ hm
  revert this
  decide
 refine ⟨(if decide (f.num<0)=true then [45] else [])++Lib.decDigits f.num.natAbs,?_,?_⟩
 ·unfold fracTxt
  rw [if_neg h]
  by_cases hs:f.num<0
  ·simp [hs]
  ·simp [hs]
 ·by_cases hs:f.num<0
  ·simp [hs];exact hd
  ·simp [hs];exact hd
theorem nat_frac (d:Nat):(((d:Int):Rat)).num=sgn false d*((((d:Int):Rat)).den:Int):=by
 obtain ⟨e1,e2⟩:=int_parts (d:Int)
 rw [e1,e2]
 simp [sgn]
theorem ten_pow (n:Nat):rpow ((10:Int):Rat) n=(((10^n:Nat):Int):Rat):=by
 obtain ⟨e1,e2⟩:=rpow_parts ((10:Int):Rat) n
 obtain ⟨i1,i2⟩:=int_parts (10:Int)
 obtain ⟨j1,j2⟩:=int_parts ((10^n:Nat):Int)
 rw [i1] at e1
 rw [i2,Nat.one_pow] at e2
 apply Rat.ext
 ·rw [e1,j1];simp
 ·rw [e2,j2]
theorem nat_len (d m:Nat) (h:d≤m) {L:Nat} (hL:(wd 18446744073709551616 m).length≤L) (h1:1≤L):Len (((d:Nat):Int):Rat) L:=by
 obtain ⟨e1,e2⟩:=int_parts (d:Int)
 refine ⟨?_,?_⟩
 ·rw [e1,Int.natAbs_natCast]
  exact Nat.le_trans (wd_len_mono h) hL
 ·rw [e2]
  exact Nat.le_trans (wd_length_le (by omega) _ 1 (by omega)) h1
theorem take_more (ds:List UInt8) (j n:Nat):dval (ds.take (j+n))=dval (ds.take j)*10^((ds.drop j).take n).length+dval ((ds.drop j).take n):=by
 rw [List.take_add,dval_append]
theorem dval_take (ds:List UInt8) (j:Nat):dval (ds.take j)≤dval ds:=by
 have h:=dval_append (ds.take j) (ds.drop j)
 rw [List.take_append_drop] at h
 rw [h]
 exact Nat.le_trans (Nat.le_mul_of_pos_right _ (Nat.pow_pos (by omega))) (Nat.le_add_right _ _)
theorem nat_step (a b c d:Nat) (h:d=a*b+c):(((a:Nat):Int):Rat)*(((b:Nat):Int):Rat)+(((c:Nat):Int):Rat)=(((d:Nat):Int):Rat):=by
 subst h
 simp
theorem fl_lenK {f:Rat} {n:Nat} (h:Len f n) (hn:0<n):Len ((fl f:Int):Rat) (n+1):=by
 obtain ⟨h1,h2⟩:=int_parts (fl f)
 have h3:=h.lt
 have hb:(fl f).natAbs≤f.num.natAbs+1:=by
  by_cases hd:f.den=1
  ·rw [(fl_whole f hd).1];omega
  ·rw [fl_abs f hd,sgn_abs]
   have:=Nat.div_le_self f.num.natAbs f.den
   split <;> omega
 refine len_of (m:=n+1) (n:=1) ?_ (by rw [h2,Nat.pow_one];omega) (n+1) (Nat.le_refl _) (by omega)
 rw [h1,Nat.pow_succ]
 have h4:0 < 18446744073709551616^n:=Nat.pow_pos (by omega)
 omega
def strLen (v:Value):Nat:=match v with
 | .string t=>t.size
 | _=>0
theorem lower_any (v:Value) (f:Rat) (w:World) (m:Int) (hf:FracAt w v f) (lf:Len f 400000) (htab:Lib.TabIs Tryz.prog w "internal/strconv.uint64pow10" .u64 Lib.pow10Tab) (hm:w.cell? ⟨4,0,none⟩=some (.int .i64 m)) :
  Calls Tryz.prog 72 #[v] w fun e w'=>∃ v',e=.returned v'∧FracAt w' v' (((f.den:Nat):Int):Rat)∧But [] w w':=by
 obtain ⟨x1,y1,p1,rfl,-⟩:=id hf.agg
 generalize hsf:decide (f.num<0)=s1 at *
 obtain ⟨W,hW⟩:∃ W,W=(w.alloc (.cells #[.bool s1,.int .u64 x1,.int .u64 y1,.pointer p1] 41)).alloc (.cells #[.bool false,.int .u64 0,.int .u64 0,.pointer none] 41):=⟨_,rfl⟩
 obtain ⟨tA,tC,fz,hB⟩:=two_new w W _ _ _ hW
 have a0:=tA 0
 have a1:=tA 1
 have a2:=tA 2
 have a3:=tA 3
 have r0:=tC 0
 have r1:=tC 1
 have r2:=tC 2
 have r3:=tC 3
 simp only [List.getElem?_toArray,List.getElem?_cons_zero,List.getElem?_cons_succ] at a0 a1 a2 a3 r0 r1 r2 r3
 obtain ⟨r,hr⟩:∃ r,r=cmpZ (f.num*((((fl f:Int):Rat)).den:Int)) (((fl f:Int):Rat).num*(f.den:Int)):=⟨_,rfl⟩
 have HR0:=hide (floor_cmp f r hr)
 have lfl:Len ((fl f:Int):Rat) 33554431:=(fl_lenK lf (by omega)).mono (by omega)
 have FL:=hide (fun W' (hb:But [] w W')=>floor_any _ f W' (hf.but hb) (lf.mono (by omega)))
 have CM:=hide (fun W' (hb:But [] w W') v' (hv':FracAt W' v' ((fl f:Int):Rat))=>fracCmp_any _ v' f _ W' (hf.but hb) hv' (lf.mono (by omega)) lfl r hr)
 have HF:=hide hf
 have HTAB:=hide htab
 have HM:=hide hm
 have LF:=hide lf
 have HB:=hide hB
 have HS:=hide hsf
 have C1:Hid (P4 W w.heap.size s1 x1 y1 p1):=⟨a0,a1,a2,a3⟩
 have C2:Hid (BoxAt W (w.heap.size+1) 0):=⟨⟨false,0,0,none,⟨r0,r1,r2,r3⟩,zero_at _⟩,fz⟩
 clear lfl hf htab hm lf hB a0 a1 a2 a3 r0 r1 r2 r3 tA tC hr hsf fz
 go_enter Tryz.func72,Tryz.ntmps72
 go_wp2
 rw [← hW]
 clear hW
 have ho2:w.heap.size≤w.heap.size+1:=by omega
 have O2:=hide ho2
 have l12:w.heap.size≠w.heap.size+1:=by omega
 generalize hg2:w.heap.size+1=g2 at *
 generalize hg1:w.heap.size=g1 at *
 refine lower_region1 1 _ _ W s1 x1 y1 p1 r ((fl f:Int):Rat) (by simp) g1 (by simp [Act.eval]) (unhide C1) (fun w' hb=>unhide FL w' ((unhide HB).trans' hb)) (fun w' hb v' hv'=>unhide CM w' ((unhide HB).trans' hb) v' hv') ?_
 intro w1 v2 hb1
 simp only [putted,List.foldl_cons,List.foldl_nil,Act.put,List.setIfInBounds_toArray,List.set_cons_zero,List.set_cons_succ]
 rw [unhide HR0]
 have B1:=hide ((unhide HB).trans' hb1)
 have K1:=hide ((unhide C1).but hb1 (by simp))
 have K2:=hide ((unhide C2).but hb1)
 clear hb1 C1 C2 HB FL CM HR0
 by_cases hd:f.den=1
 ·rw [decide_eq_true hd]
  obtain ⟨ws,wx,FW,CW⟩:=whole_is 1 (by omega) (by omega)
  have CWH:=hide CW
  have FWH:=hide FW
  clear CW FW
  obtain ⟨⟨s2,x2,y2,p2,⟨c0,c1,c2,c3⟩,-⟩,z2⟩:=unhide K2
  go_wp2_with fail
  refine (unhide CWH _).mono ?_
  rintro e w2 ⟨rfl,hb2⟩
  have B2:=hide hb2
  have l2:g2<w1.heap.size:=lt_of_cell c0
  have z2':∀ j,w2.frozen? ⟨g2,j,none⟩=false:=fun j=>(hb2.frozen (p:=⟨g2,j,none⟩) l2 (by simp)).trans (z2 j)
  replace c0:=hb2.cell_some c0 (by simp)
  replace c1:=hb2.cell_some c1 (by simp)
  replace c2:=hb2.cell_some c2 (by simp)
  replace c3:=hb2.cell_some c3 (by simp)
  clear hb2 CWH z2
  have P2:Hid (P4 w2 g2 s2 x2 y2 p2):=⟨c0,c1,c2,c3⟩
  go_wp2
  have hP:=put4_but w2 g2 ws wx 0 none
  obtain ⟨m0,m1,m2,m3⟩:=put4_p4 w2 g2 ws wx 0 none (unhide P2)
  have hF:But [] w (put4 w2 g2 ws wx 0 none):=((unhide B1).trans' (unhide B2)).trans hP (fun x hx=>by simp at hx;subst hx;exact .inr (by omega))
  change bodyPost _ _ _ _ _ (put4 w2 g2 ws wx 0 none)
  generalize put4 w2 g2 ws wx 0 none=F at *
  exact bodyPost_ret (v:=.agg #[.bool ws,.int .u64 wx,.int .u64 0,.pointer none]) (by simp [results,Tryz.results72,go_sem,m0,m1,m2,m3]) rfl ⟨_,rfl,by rw [hd];exact unhide FWH F,hF⟩
 ·rw [decide_eq_false hd]
  obtain ⟨t,ht⟩:∃ t,t=fracTxt (decide (f.num<0)) f.num.natAbs f.den:=⟨_,rfl⟩
  obtain ⟨pre,hpre,hno⟩:=txt_cut f hd
  rw [← ht] at hpre
  have hts:t.size<4294967281:=by
   have e:t.size=t.data.toList.length:=by simp
   have d1:=dec_short f.den (Nat.le_trans (unhide LF).2 (by omega))
   have d2:=dec_short f.num.natAbs (Nat.le_trans (unhide LF).1 (by omega))
   rw [e,ht]
   unfold fracTxt
   by_cases hs:f.num<0
   ·simp [hs,hd];omega
   ·simp [hs,hd];omega
  have TX:=hide (fun W' (hb:But [] w W')=>fracText_len _ f W' ((unhide HF).but hb) ((unhide LF).mono (by omega)) (TabIs.but (unhide HTAB) hb) t ht)
  have CU:=hide (fun W' (hb:But [] w W')=>Tryz.strings_Cut t 47 pre (Lib.decDigits f.den) m W' hpre hno hts (hb.cell_some (unhide HM) (by simp)))
  obtain ⟨hdg,hval,hpos⟩:=dec_digits f.den
  generalize hds:Lib.decDigits f.den=ds at *
  have HDG:=hide hdg
  have HVAL:=hide hval
  have HPOS:=hide hpos
  obtain ⟨c0,c1,c2,c3⟩:=unhide K1
  clear hpre hno hts ht hds hdg hval hpos HTAB HM
  go_wp2_with fail
  refine (unhide TX _ (unhide B1)).mono ?_
  rintro e w2 ⟨rfl,hb2⟩
  have B2:=hide ((unhide B1).trans' hb2)
  have K2':=hide ((unhide K2).but hb2)
  clear K2 K1 c0 c1 c2 c3 hb2 B1 TX
  go_wp2_with fail
  refine (unhide CU _ (unhide B2)).mono ?_
  rintro e w3 ⟨rfl,nd,rfl⟩
  have B3:Hid (But [] w (w2.drewN nd)):=(unhide B2).drewN nd
  have K3:=hide ((unhide K2').but ((But.refl [] w2).drewN nd))
  generalize w2.drewN nd=w3 at *
  clear B2 K2' CU
  go_wp2
  have V6:=hide (BoxAt.new w3 false 0 0 none 0 41 (zero_at _))
  have bV:But [] w3 (w3.alloc (.cells #[.bool false,.int .u64 0,.int .u64 0,.pointer none] 41)):=(But.refl _ _).alloc _
  have KV:=hide ((unhide K3).but bV)
  have BV:=hide ((unhide B3).trans' bV)
  have o6:g2<w3.heap.size:=(unhide K3).lt
  have q6:w.heap.size≤w3.heap.size:=(unhide B3).size
  clear bV K3 B3
  generalize hg6:w3.heap.size=g6 at *
  generalize w3.alloc (.cells #[.bool false,.int .u64 0,.int .u64 0,.pointer none] 41)=V at *
  clear hg6
  go_loopw [4] (fun dv wr=>∃ (j:Nat) (td:ByteArray),dv=.string td∧j≤ds.length∧Hid (td.data.toList=ds.drop j)∧Hid (BoxAt wr g6 (((dval (ds.take j):Nat):Int):Rat)∧BoxAt wr g2 0∧But [] w wr)) (fun dv _=>strLen dv)
  case atStart=>exact ⟨0,_,rfl,Nat.zero_le _,by show _=_;simp,unhide V6,unhide KV,unhide BV⟩
  case round =>
   obtain ⟨j,td,rfl,hj,HTD,HI⟩:=hrel
   rename World=>wr
   clear V6 KV BV
   obtain ⟨k,hk⟩:∃ k,k=ds.length-j:=⟨_,rfl⟩
   have hsz:td.size=k:=by rw [size_list (unhide HTD),List.length_drop,hk]
   by_cases hlt:j<ds.length
   ·have h0:0<k:=by omega
    obtain ⟨n,hn⟩:∃ n,n=Nat.min k 60:=⟨_,rfl⟩
    have hn60:n≤60:=by rw [hn];exact Nat.min_le_right _ _
    have hnk:n≤k:=by rw [hn];exact Nat.min_le_left _ _
    have hn1:0<n:=by rw [hn];exact Nat.lt_min.2 ⟨h0,by omega⟩
    have hmin:min (k:Int) 60=(n:Int):=by
     have e:n=min k 60:=hn
     omega
    have HK:=hide hk
    have hnj:j+n≤ds.length:=by omega
    have e1:(td.extract 0 n).data.toList=(ds.drop j).take n:=by
     rw [← unhide HTD]
     simp [ByteArray.data_extract,List.extract_eq_take_drop]
    have e2:(td.extract n k).data.toList=ds.drop (j+n):=by
     rw [← List.drop_drop,← unhide HTD]
     simp only [ByteArray.data_extract,List.extract_eq_take_drop,Array.toList_extract]
     exact List.take_of_length_le (by rw [List.length_drop];have:=size_list (t:=td) rfl;omega)
    have E2:=hide e2
    have lp:((ds.drop j).take n).length=n:=by rw [List.length_take,List.length_drop];omega
    have LPc:=hide lp
    have dp:Digits ((ds.drop j).take n):=fun x hx=>unhide HDG x (List.mem_of_mem_drop (List.mem_of_mem_take hx))
    have PA:=hide (fun W=>parse_whole (td.extract 0 n) false ((ds.drop j).take n) W (by rw [e1];rfl) dp (by omega) (by omega) _ (nat_frac (dval ((ds.drop j).take n))))
    obtain ⟨ws,wx,FW,CW⟩:=whole_is 10 (by omega) (by omega)
    have CWH:=hide CW
    have PW:=hide (fun W=>fracPow_up _ _ n W (FW W) (by omega) ((len_int 10 (by decide)).mono (by omega)))
    have H6:=hide (unhide HI).1
    have H2:=hide (unhide HI).2.1
    have HBW:=hide (unhide HI).2.2
    clear hn hk e1 e2 lp dp CW HI
    go_wp2_with fail
    refine (unhide PA _).mono ?_
    rintro e w4 ⟨v4,rfl,hv4,hb4⟩
    obtain ⟨x4,y4,p4,rfl,-⟩:=id hv4.agg
    generalize hs4:decide ((((dval ((ds.drop j).take n):Nat):Int):Rat).num<0)=s4 at *
    clear hs4
    have B4:=hide hb4
    have HV4:=hide hv4
    have A4:=hide (BoxAt.new w4 s4 x4 y4 p4 _ 41 hv4)
    have bA4:Hid (But [] w4 (w4.alloc (.cells #[.bool s4,.int .u64 x4,.int .u64 y4,.pointer p4] 41))):=(But.refl _ _).alloc _
    clear hv4 hb4 PA
    go_wp2_with fail
    refine (unhide CWH _).mono ?_
    rintro e w5 ⟨rfl,hb5⟩
    have B5:=hide hb5
    clear hb5 CWH
    go_wp2_with fail
    refine (unhide PW _).mono ?_
    rintro e w6 ⟨v6,rfl,hv6,hb6⟩
    obtain ⟨x6,y6,p6,rfl,-⟩:=id hv6.agg
    generalize hs6:decide ((rpow ((10:Int):Rat) n).num<0)=s6 at *
    clear hs6
    rw [ten_pow] at hv6
    have B6:=hide hb6
    have A6:=hide (BoxAt.new w6 s6 x6 y6 p6 _ 41 hv6)
    have bA6:Hid (But [] w6 (w6.alloc (.cells #[.bool s6,.int .u64 x6,.int .u64 y6,.pointer p6] 41))):=(But.refl _ _).alloc _
    clear hv6 hb6 PW
    go_wp2
    obtain ⟨U,hU⟩:∃ U,U=w6.alloc (.cells #[.bool s6,.int .u64 x6,.int .u64 y6,.pointer p6] 41):=⟨_,rfl⟩
    rw [← hU] at A6 bA6
    rw [← hU]
    have b46:But [] (w4.alloc (.cells #[.bool s4,.int .u64 x4,.int .u64 y4,.pointer p4] 41)) U:=((unhide B5).trans' (unhide B6)).trans' (unhide bA6)
    have bU:But [] wr U:=((unhide B4).trans' (unhide bA4)).trans' b46
    have BU:=hide bU
    have D8:=hide ((unhide A4).but b46)
    have D6:=hide ((unhide H6).but bU)
    have D2:=hide ((unhide H2).but bU)
    have DB:=hide ((unhide HBW).trans' bU)
    have l8:g6<w4.heap.size:=Nat.lt_of_lt_of_le (unhide H6).lt (unhide B4).size
    generalize hg8:w4.heap.size=g8 at *
    generalize hg10:w6.heap.size=g10 at *
    clear hU B4 bA4 A4 B5 B6 bA6 b46 bU H6 H2 HBW hg8 hg10 HV4
    obtain ⟨⟨t6,a6,b6,q6',c6,hf6⟩,z6⟩:=unhide D6
    obtain ⟨⟨t8,a8,b8,q8,c8,hf8⟩,-⟩:=unhide D8
    obtain ⟨⟨t10,a10,b10,q10,c10,hf10⟩,-⟩:=unhide A6
    have ltk:=dval_take ds j
    have ltn:=dval_take ds (j+n)
    have stp:=take_more ds j n
    rw [unhide LPc] at stp
    have lden:(wd 18446744073709551616 (dval ds)).length≤400000:=by rw [unhide HVAL];exact (unhide LF).2
    have ten4:Len (((10^n:Nat):Int):Rat) 1000000:=nat_len (10^n) (10^60) (Nat.pow_le_pow_right (by omega) hn60) (Nat.le_trans (wd_length_le (by omega) _ 4 (by decide)) (by omega)) (by omega)
    have lmul:Len ((((dval (ds.take j):Nat):Int):Rat)*(((10^n:Nat):Int):Rat)) 400000:=by
     have e:(((dval (ds.take j):Nat):Int):Rat)*(((10^n:Nat):Int):Rat)=(((dval (ds.take j)*10^n:Nat):Int):Rat):=by simp
     rw [e]
     exact nat_len _ (dval ds) (by omega) lden (by omega)
    refine lower_region9 9 _ _ U t6 a6 b6 q6' t10 a10 b10 q10 t8 a8 b8 q8 _ _ _ g6 g8 g10 (by simp) (by simp [Act.eval]) c6 z6 (by simp [Act.eval]) (by simp [Act.eval]) c6 c10 c8 (fun w' hb=>fracMul_any _ _ _ _ w' (hf6.but hb) (hf10.but hb) (nat_len _ (dval ds) ltk (Nat.le_trans lden (by omega)) (by omega)) ten4) (fun w' hb v' hv'=>fracAdd_gen 400000 400000 (by omega) _ _ _ _ w' hv' (hf8.but hb) lmul (nat_len _ (dval ds) (by omega) lden (by omega))) ?_
    intro w7 v2' s7 x7 y7 p7 hb7 hf7
    simp only [putted,List.foldl_cons,List.foldl_nil,Act.put,List.setIfInBounds_toArray,List.set_cons_zero,List.set_cons_succ]
    rw [nat_step _ _ _ _ stp] at hf7
    have hP:=put4_but w7 g6 s7 x7 y7 p7
    have J6:=hide (((unhide D6).but hb7).put hf7)
    have J2:=hide (((unhide D2).but hb7).beside hP (by simp;omega) (fun g hg=>by simp at hg;subst hg;exact ((unhide D6).but hb7).bool))
    have JB:=hide (((unhide DB).trans' hb7).trans hP (fun x hx=>by simp at hx;subst hx;exact .inr q6))
    generalize put4 w7 g6 s7 x7 y7 p7=V7 at *
    clear hP hf7 hb7 D6 D2 DB D8 A6 c6 c8 c10 hf6 hf8 hf10 z6 ltk ltn stp lden ten4 lmul BU
    go_wp2
    refine ⟨⟨j+n,_,rfl,hnj,E2,unhide J6,unhide J2,unhide JB⟩,?_⟩
    show (td.extract n k).size<td.size
    have hx:=size_list (unhide E2)
    rw [List.length_drop] at hx
    have:=unhide HK
    omega
   ·obtain rfl:j=ds.length:=by omega
    have k0:k=0:=by omega
    obtain ⟨⟨⟨t6,a6,b6,q6',⟨d0,d1,d2,d3⟩,hf6⟩,z6⟩,⟨⟨t2,a2,b2,q2,⟨c0,c1,c2,c3⟩,-⟩,z2⟩,hbw⟩:=unhide HI
    rw [List.take_length,unhide HVAL] at hf6
    have HF6:=hide hf6
    have HBW:=hide hbw
    have P2:Hid (P4 wr g2 t2 a2 b2 q2):=⟨c0,c1,c2,c3⟩
    clear HI hf6 hbw hk
    go_wp2
    have hP:=put4_but wr g2 t6 a6 b6 q6'
    obtain ⟨m0,m1,m2,m3⟩:=put4_p4 wr g2 t6 a6 b6 q6' (unhide P2)
    have hF:But [] w (put4 wr g2 t6 a6 b6 q6'):=(unhide HBW).trans hP (fun x hx=>by simp at hx;subst hx;exact .inr (by omega))
    have hff:=(unhide HF6).over (unhide P2).1 hP
    change bodyPost _ _ _ _ _ (put4 wr g2 t6 a6 b6 q6')
    generalize put4 wr g2 t6 a6 b6 q6'=F at *
    exact bodyPost_ret (v:=.agg #[.bool t6,.int .u64 a6,.int .u64 b6,.pointer q6']) (by simp [results,Tryz.results72,go_sem,m0,m1,m2,m3]) rfl ⟨_,rfl,hff,hF⟩
end Go.Proofs.YthlnhheblhapgaaGreatDoor

namespace Go.Proofs.YthlnhheblhapgaaGreatDoor
open Go.RowKit
set_option maxHeartbeats 16000000
set_option maxRecDepth 100000
def comStep (U:Nat) (f:Rat):Nat:=U*(f*(((U:Nat):Int):Rat)).den
def comN (U:Nat) (fs:List Rat):Nat:=fs.foldl comStep U
theorem comN_append (U:Nat) (xs ys:List Rat):comN U (xs++ys)=comN (comN U xs) ys:=List.foldl_append
theorem comN_take (U:Nat) (fs:List Rat) (k:Nat) (hk:k<fs.length):comN U (fs.take (k+1))=comStep (comN U (fs.take k)) (fs[k]?.getD 0):=by
 rw [List.take_add_one,List.getElem?_eq_getElem hk,comN_append]
 rfl
theorem times_den (f:Rat) (U:Nat):(f*(((U:Nat):Int):Rat)).den ∣ f.den:=by
 have hc:=cross_mul f (((U:Nat):Int):Rat)
 obtain ⟨e1,e2⟩:=int_parts (U:Int)
 rw [e1,e2,Nat.mul_one] at hc
 have hr:Nat.Coprime (f*(((U:Nat):Int):Rat)).num.natAbs (f*(((U:Nat):Int):Rat)).den:=(f*(((U:Nat):Int):Rat)).reduced
 have h2:(f*(((U:Nat):Int):Rat)).num.natAbs*f.den=(f.num*(U:Int)).natAbs*(f*(((U:Nat):Int):Rat)).den:=by
  have:=congrArg Int.natAbs hc
  rw [Int.natAbs_mul,Int.natAbs_mul,Int.natAbs_natCast,Int.natAbs_natCast] at this
  exact this
 exact Nat.Coprime.dvd_of_dvd_mul_left hr.symm ⟨(f.num*(U:Int)).natAbs,by rw [h2,Nat.mul_comm]⟩
theorem comN_len (c:Nat):∀ (fs:List Rat) (U:Nat),(∀ f ∈ fs,Len f c)→(wd 18446744073709551616 (comN U fs)).length≤(wd 18446744073709551616 U).length+fs.length*c
 | [],U,_=>by simp [comN]
 | f::fs,U,h=>by
  have ih:=comN_len c fs (comStep U f) (fun g hg=>h g (by simp [hg]))
  have hd:=Nat.le_of_dvd (den_pos f) (times_den f U)
  have h1:(wd 18446744073709551616 (comStep U f)).length≤(wd 18446744073709551616 U).length+c:=by
   unfold comStep
   exact Nat.le_trans (wd_len_mul _ _) (Nat.add_le_add_left (Nat.le_trans (wd_len_mono hd) (h f (by simp)).2) _)
  show (wd 18446744073709551616 (comN (comStep U f) fs)).length≤_
  rw [List.length_cons,Nat.succ_mul]
  omega
def ListsAt (w:World) (v:Value) (ls:List (List Rat)):Prop:=∃ a cap,v=.slice a ls.length cap∧ls.length≤cap∧∀ i l,ls[i]? = some l→∃ b off u,a=some ⟨b,off,none⟩∧w.cell? ⟨b,off+i,none⟩=some u∧FracsAt w u l
theorem ListsAt.but {w w':World} {v:Value} {ls:List (List Rat)} (h:ListsAt w v ls) (hb:But [] w w'):ListsAt w' v ls:=by
 obtain ⟨a,cap,e,hc,h⟩:=h
 refine ⟨a,cap,e,hc,fun i l hl=>?_⟩
 obtain ⟨b,off,u,e1,h1,h2⟩:=h i l hl
 exact ⟨b,off,u,e1,hb.cell_some h1 (by simp),h2.but hb⟩
theorem ListsAt.get {w:World} {q:Option Addr} {n cap:Nat} {ls:List (List Rat)} (h:ListsAt w (.slice q n cap) ls) (i:Nat) (hi:i<ls.length):∃ b off u,q=some ⟨b,off,none⟩∧w.cell? ⟨b,off+i,none⟩=some u∧FracsAt w u (ls[i]?.getD []):=by
 obtain ⟨a,cap',e,-,h⟩:=h
 simp only [Value.slice.injEq] at e
 obtain ⟨rfl,rfl,-⟩:=e
 obtain ⟨b,off,u,e1,h1,h2⟩:=h i ls[i] (List.getElem?_eq_getElem hi)
 exact ⟨b,off,u,e1,h1,by rw [List.getElem?_eq_getElem hi];exact h2⟩
theorem common_any (v:Value) (ls:List (List Rat)) (w:World) (m:Int) (c:Nat) (hv:ListsAt w v ls) (hn:ls.length≤100000) (hl:∀ l ∈ ls,l.length≤100000) (lf:∀ l ∈ ls,∀ f ∈ l,Len f c) (hc:ls.flatten.length*c+1≤200000) (hc1:c≤100000) (htab:Lib.TabIs Tryz.prog w "internal/strconv.uint64pow10" .u64 Lib.pow10Tab) (hm:w.cell? ⟨4,0,none⟩=some (.int .i64 m)) :
  Calls Tryz.prog 45 #[v] w fun e w'=>∃ v',e=.returned v'∧FracAt w' v' (((comN 1 ls.flatten:Nat):Int):Rat)∧But [] w w':=by
 obtain ⟨q,cap,rfl,hcap,-⟩:=id hv
 obtain ⟨n,hN⟩:∃ n,n=ls.length:=⟨_,rfl⟩
 rw [← hN] at hn hcap ⊢
 rw [← hN] at hv
 have HV:=hide hv
 have HN:=hide hN
 have HTAB:=hide htab
 have HM:=hide hm
 obtain ⟨ws,wx,FW,CW⟩:=whole_is 1 (by omega) (by omega)
 have CWH:=hide CW
 have FWH:=hide FW
 clear hv hN htab hm CW FW
 have bA:But [] w (w.alloc (.cells #[.bool false,.int .u64 0,.int .u64 0,.pointer none] 41)):=(But.refl _ _).alloc _
 have xA:=BoxAt.new w false 0 0 none 0 41 (zero_at _)
 have BA:=hide bA
 have XA:=hide xA
 clear bA xA
 go_enter Tryz.func45,Tryz.ntmps45
 go_wp2_with fail
 refine (unhide CWH _).mono ?_
 rintro e w1 ⟨rfl,hb1⟩
 have B1:=hide ((unhide BA).trans' hb1)
 have X2:=hide ((unhide XA).but hb1)
 clear hb1 BA XA CWH
 go_wp2
 have x3:=BoxAt.new w1 ws wx 0 none _ 41 (unhide FWH w1)
 have bV:But [] w1 (w1.alloc (.cells #[.bool ws,.int .u64 wx,.int .u64 0,.pointer none] 41)):=(But.refl _ _).alloc _
 have X3:=hide x3
 have Y2:=hide ((unhide X2).but bV)
 have BV:=hide ((unhide B1).trans' bV)
 have o3:w.heap.size<w1.heap.size:=(unhide X2).lt
 clear x3 bV X2 B1
 generalize hg3:w1.heap.size=g3 at *
 generalize hg2:w.heap.size=g2 at *
 generalize w1.alloc (.cells #[.bool ws,.int .u64 wx,.int .u64 0,.pointer none] 41)=V at *
 clear hg3
 go_loopw [11] (fun iv wr=>∃ i:Nat,i≤n∧iv=.int .i64 (i:Int)∧Hid (BoxAt wr g3 (((comN 1 (ls.take i).flatten:Nat):Int):Rat)∧BoxAt wr g2 0∧But [] w wr)) (fun iv _=>n-(intOf iv).toNat)
 case atStart=>exact ⟨0,Nat.zero_le _,rfl,unhide X3,unhide Y2,unhide BV⟩
 case round =>
  obtain ⟨i,hi,rfl,HI⟩:=hrel
  rename World=>wr
  clear X3 Y2 BV
  by_cases hlt:i<n
  ·have hil:i<ls.length:=by have:=unhide HN;omega
   obtain ⟨b,off,u,rfl,hcu,hfu⟩:=(unhide HV).get i hil
   replace hcu:=(unhide HI).2.2.cell_some hcu (by simp)
   obtain ⟨l,hL⟩:∃ l,l=ls[i]?.getD []:=⟨_,rfl⟩
   rw [← hL] at hfu
   have hmem:l ∈ ls:=by rw [hL,List.getElem?_eq_getElem hil];exact List.getElem_mem hil
   have hll:=hl l hmem
   have LFL:=hide (lf l hmem)
   have htk:(ls.take (i+1)).flatten=(ls.take i).flatten++l:=by
    have e:ls[i]? = some l:=by rw [hL,List.getElem?_eq_getElem hil];rfl
    rw [List.take_add_one,e]
    simp
   have hln:((ls.take i).flatten.length+l.length)*c+1≤200000:=by
    have h1:((ls.take i).flatten++l).length≤ls.flatten.length:=by
     rw [← htk]
     have e:ls.flatten=(ls.take (i+1)).flatten++(ls.drop (i+1)).flatten:=by rw [← List.flatten_append,List.take_append_drop]
     rw [e,List.length_append]
     omega
    rw [List.length_append] at h1
    exact Nat.le_trans (Nat.add_le_add_right (Nat.mul_le_mul_right c h1) 1) hc
   have LFT:Hid (∀ f ∈ (ls.take i).flatten,Len f c):=fun f hf=>by
    obtain ⟨l',h1,h2⟩:=List.mem_flatten.1 hf
    exact lf l' (List.mem_of_mem_take h1) f h2
   obtain ⟨qu,cu,rfl,hcu2,-⟩:=id hfu
   obtain ⟨k,hk⟩:∃ k,k=l.length:=⟨_,rfl⟩
   rw [← hk] at hfu hcu hcu2 hll hln
   have HFU:=hide hfu
   have HTK:=hide htk
   have HLN:=hide hln
   have HK:=hide hk
   clear hfu hL hk htk hln hmem
   go_wp2
   clear hcu
   go_loopw [17] (fun jv wx=>∃ j:Nat,j≤k∧jv=.int .i64 (j:Int)∧Hid (BoxAt wx g3 (((comN (comN 1 (ls.take i).flatten) (l.take j):Nat):Int):Rat)∧BoxAt wx g2 0∧But [] w wx)) (fun jv _=>k-(intOf jv).toNat)
   case atStart=>exact ⟨0,Nat.zero_le _,rfl,(unhide HI).1,(unhide HI).2.1,(unhide HI).2.2⟩
   case round =>
    obtain ⟨j,hj,rfl,HJ⟩:=hrel
    rename World=>wx
    clear HI
    by_cases hjt:j<k
    ·have hjl:j<l.length:=by have:=unhide HK;omega
     have hfx:=(unhide HFU).but (unhide HJ).2.2
     rcases hfx.open with ⟨er,-⟩ | ⟨-,rb,roff,rcap2,er,-,-⟩
     ·rw [er] at hjl
      simp at hjl
     simp only [Value.slice.injEq] at er
     obtain ⟨rfl,-,rfl⟩:=er
     obtain ⟨sr,xr,yr,pr,⟨r0,r1,r2,r3⟩,hfr⟩:=hfx.get j hjt
     have HFR:=hide hfr
     clear hfx hfr
     go_wp2
     have bA:But [] wx (wx.alloc (.cells #[.bool sr,.int .u64 xr,.int .u64 yr,.pointer pr] 41)):=(But.refl _ _).alloc _
     have x7:=BoxAt.new wx sr xr yr pr _ 41 (unhide HFR)
     have D3:=hide ((unhide HJ).1.but bA)
     have D2:=hide ((unhide HJ).2.1.but bA)
     have DB:=hide ((unhide HJ).2.2.trans' bA)
     have X7:=hide x7
     clear bA x7 HFR r0 r1 r2 r3 HJ
     generalize wx.heap.size=g7 at *
     generalize wx.alloc (.cells #[.bool sr,.int .u64 xr,.int .u64 yr,.pointer pr] 41)=U at *
     obtain ⟨⟨t3,a3,b3,q3,c3,hf3⟩,z3⟩:=unhide D3
     obtain ⟨⟨t7,a7,b7,q7,c7,hf7⟩,-⟩:=unhide X7
     obtain ⟨A,hA⟩:∃ A,A=comN (comN 1 (ls.take i).flatten) (l.take j):=⟨_,rfl⟩
     have hstep:=comN_take (comN 1 (ls.take i).flatten) l j hjl
     rw [← hA] at hf3 hstep
     obtain ⟨f,hff⟩:∃ f,f=l[j]?.getD 0:=⟨_,rfl⟩
     rw [← hff] at hf7 hstep
     have lff:Len f c:=by rw [hff,List.getElem?_eq_getElem hjl];exact unhide LFL _ (List.getElem_mem hjl)
     have lA:(wd 18446744073709551616 A).length≤200000:=by
      rw [hA,← comN_append]
      refine Nat.le_trans (comN_len c _ 1 (fun g hg=>?_)) ?_
      ·rcases List.mem_append.1 hg with h1 | h1
       ·exact unhide LFT g h1
       ·exact unhide LFL g (List.mem_of_mem_take h1)
      ·have h1:(wd 18446744073709551616 1).length≤1:=wd_length_le (by omega) _ 1 (by omega)
       have h2:((ls.take i).flatten++l.take j).length*c≤((ls.take i).flatten.length+k)*c:=Nat.mul_le_mul_right c (by rw [List.length_append,List.length_take];omega)
       have:=unhide HLN
       omega
     have lu:Len (((A:Nat):Int):Rat) 200000:=nat_len A A (Nat.le_refl _) lA (by omega)
     have lfu:Len (f*(((A:Nat):Int):Rat)) 400000:=len_mul (lff.mono hc1) lu 400000 (by omega)
     have lz:Len ((((f*(((A:Nat):Int):Rat)).den:Nat):Int):Rat) 1000000:=nat_len _ _ (Nat.le_refl _) (Nat.le_trans lfu.2 (by omega)) (by omega)
     refine common_region 8 _ _ U t3 a3 b3 q3 t7 a7 b7 q7 _ _ ((((f*(((A:Nat):Int):Rat)).den:Nat):Int):Rat) g3 g7 (by simp) (by simp [Act.eval]) c3 z3 (by simp [Act.eval]) c3 c7 (fun w' hb=>fracMul_any _ _ _ _ w' (hf7.but hb) (hf3.but hb) (lff.mono (by omega)) (lu.mono (by omega))) (fun w' hb v' hv'=>lower_any v' _ w' m hv' lfu (TabIs.but (unhide HTAB) ((unhide DB).trans' hb)) (((unhide DB).trans' hb).cell_some (unhide HM) (by simp))) (fun w' hb v' hv'=>fracMul_any _ _ _ _ w' (hf3.but hb) hv' (lu.mono (by omega)) lz) ?_
     intro w7 v3' v4' s7 x7 y7 p7 hb7 hfz
     simp only [putted,List.foldl_cons,List.foldl_nil,Act.put,List.setIfInBounds_toArray,List.set_cons_zero,List.set_cons_succ]
     have ez:(((A:Nat):Int):Rat)*((((f*(((A:Nat):Int):Rat)).den:Nat):Int):Rat)=(((comStep A f:Nat):Int):Rat):=by unfold comStep;simp
     rw [ez,← hstep] at hfz
     have hP:=put4_but w7 g3 s7 x7 y7 p7
     have J3:=hide (((unhide D3).but hb7).put hfz)
     have J2:=hide (((unhide D2).but hb7).beside hP (by simp;omega) (fun g hg=>by simp at hg;subst hg;exact ((unhide D3).but hb7).bool))
     have JB:=hide (((unhide DB).trans' hb7).trans hP (fun x hx=>by simp at hx;subst hx;exact .inr (by omega)))
     generalize put4 w7 g3 s7 x7 y7 p7=V7 at *
     clear hP hfz hb7 D3 D2 DB X7 c3 c7 hf3 hf7 z3 ez lz lfu lu lA lff hstep
     go_wp2
     exact ⟨⟨j+1,by omega,by go_num,unhide J3,unhide J2,unhide JB⟩,by simp [intOf];omega⟩
    ·obtain rfl:j=k:=by omega
     go_wp2
     refine ⟨⟨i+1,by omega,by go_num,?_,(unhide HJ).2.1,(unhide HJ).2.2⟩,by simp [intOf];omega⟩
     have hx:=(unhide HJ).1
     rw [unhide HK,List.take_length,← comN_append,← unhide HTK] at hx
     exact hx
  ·obtain rfl:i=n:=by omega
   obtain ⟨⟨⟨t6,a6,b6,q6',⟨d0,d1,d2,d3⟩,hf6⟩,z6⟩,⟨⟨t2,a2,b2,q2,⟨c0,c1,c2,c3⟩,-⟩,z2⟩,hbw⟩:=unhide HI
   rw [unhide HN,List.take_length] at hf6
   have HF6:=hide hf6
   have HBW:=hide hbw
   have P2:Hid (P4 wr g2 t2 a2 b2 q2):=⟨c0,c1,c2,c3⟩
   clear HI hf6 hbw
   go_wp2
   have hP:=put4_but wr g2 t6 a6 b6 q6'
   obtain ⟨m0,m1,m2,m3⟩:=put4_p4 wr g2 t6 a6 b6 q6' (unhide P2)
   have hF:But [] w (put4 wr g2 t6 a6 b6 q6'):=(unhide HBW).trans hP (fun x hx=>by simp at hx;subst hx;exact .inr (by omega))
   have hff:=(unhide HF6).over (unhide P2).1 hP
   change bodyPost _ _ _ _ _ (put4 wr g2 t6 a6 b6 q6')
   generalize put4 wr g2 t6 a6 b6 q6'=F at *
   exact bodyPost_ret (v:=.agg #[.bool t6,.int .u64 a6,.int .u64 b6,.pointer q6']) (by simp [results,Tryz.results45,go_sem,m0,m1,m2,m3]) rfl ⟨_,rfl,hff,hF⟩
end Go.Proofs.YthlnhheblhapgaaGreatDoor

namespace Go.Proofs.YthlnhheblhapgaaGreatDoor
open Go.RowKit
theorem rat_den (f:Rat):f*((f.den:Int):Rat)=((f.num:Int):Rat):=by
 have h0:((f.den:Int):Rat)≠0:=fun h=>by
  have h2:((f.den:Int):Rat)=((0:Int):Rat):=h
  have:=Rat.intCast_inj.1 h2
  have:=den_pos f
  omega
 have h2:=Rat.div_mul_cancel (a:=((f.num:Int):Rat)) h0
 rw [← Rat.divInt_eq_div,Rat.num_divInt_den] at h2
 exact h2
theorem com_mult:∀ (fs:List Rat) (U:Nat),∃ k,comN U fs=U*k
 | [],U=>⟨1,by rw [Nat.mul_one];rfl⟩
 | f::fs,U=>by
  obtain ⟨k,hk⟩:=com_mult fs (comStep U f)
  exact ⟨(f*(((U:Nat):Int):Rat)).den*k,by
   show comN (comStep U f) fs=_
   rw [hk]
   unfold comStep
   rw [Nat.mul_assoc]⟩
theorem com_whole:∀ (fs:List Rat) (U:Nat) (f:Rat),f ∈ fs→∃ z:Int,f*(((comN U fs:Nat):Int):Rat)=((z:Int):Rat)
 | [],_,f,h=>by simp at h
 | g::fs,U,f,h=>by
  rcases List.mem_cons.1 h with rfl | h2
  ·obtain ⟨k,hk⟩:=com_mult fs (comStep U f)
   refine ⟨(f*(((U:Nat):Int):Rat)).num*(k:Int),?_⟩
   show f*(((comN (comStep U f) fs:Nat):Int):Rat)=_
   have e:=rat_den (f*(((U:Nat):Int):Rat))
   rw [hk]
   unfold comStep
   rw [Int.natCast_mul,Int.natCast_mul,Rat.intCast_mul,Rat.intCast_mul,Rat.intCast_mul,← e]
   grind
  ·exact com_whole fs (comStep U g) f h2
theorem com_pos:∀ (fs:List Rat) (U:Nat),0<U→0<comN U fs
 | [],_,h=>h
 | f::fs,U,h=>com_pos fs (comStep U f) (Nat.mul_pos h (den_pos _))
theorem atR_zero {fs:List Rat} {k:Nat} (h:fs.length≤k):atR fs k=0:=by
 unfold atR
 rw [List.getElem?_eq_none (by omega)];rfl
theorem atR_pos {fs:List Rat} (h:∀ f ∈ fs,0≤f) (k:Nat):0≤atR fs k:=by
 by_cases hk:k<fs.length
 ·unfold atR
  rw [List.getElem?_eq_getElem hk]
  exact h _ (List.getElem_mem hk)
 ·rw [atR_zero (by omega)];decide
end Go.Proofs.YthlnhheblhapgaaGreatDoor
