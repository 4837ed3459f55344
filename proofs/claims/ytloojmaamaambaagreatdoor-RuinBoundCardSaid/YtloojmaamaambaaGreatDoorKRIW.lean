/- Lundberg: ruin is at most as likely as r -/
import Derived.Test.YtloojmaamaambaaGreatDoorKRIJ
import Derived.Test.YtloojmaamaambaaGreatDoorKRIV
import Derived.Test.YtloojmaamaambaaGreatDoorKRKI
namespace Go.Proofs.YtloojmaamaambaaGreatDoor
open Go.RowKit
set_option maxHeartbeats 32000000
set_option maxRecDepth 100000
theorem rat_over {f:Rat} {x y:Int} (h:f.num*y=x*(f.den:Int)):f*((y:Int):Rat)=((x:Int):Rat):=by
 have e:=rat_den f
 have hd:(0:Rat)<((f.den:Int):Rat):=Rat.intCast_pos.2 (by have:=den_pos f;omega)
 have h2:((f.num:Int):Rat)*((y:Int):Rat)=((x:Int):Rat)*((f.den:Int):Rat):=by
  rw [← Rat.intCast_mul,← Rat.intCast_mul,h]
 rw [← e] at h2
 have h3:f*((y:Int):Rat)*((f.den:Int):Rat)=((x:Int):Rat)*((f.den:Int):Rat):=by rw [← h2];grind
 exact Rat.le_antisymm (Rat.le_of_mul_le_mul_right (by rw [h3];exact Rat.le_refl) hd) (Rat.le_of_mul_le_mul_right (by rw [h3];exact Rat.le_refl) hd)
theorem powR_ones:∀ k,powR 1 k=1
 | 0=>rfl
 | k+1=>by
  show powR 1 k*1=1
  rw [powR_ones k];grind
theorem rpow_down (f:Rat) (h:0<f):∀ k,rpow f⁻¹ k*powR f k=1
 | 0=>by
  show (1:Rat)*1=1
  grind
 | k+1=>by
  have ih:=rpow_down f h k
  have e:f⁻¹*f=1:=Rat.inv_mul_cancel f (by grind)
  show rpow f⁻¹ k*f⁻¹*(powR f k*f)=1
  have:rpow f⁻¹ k*f⁻¹*(powR f k*f)=(rpow f⁻¹ k*powR f k)*(f⁻¹*f):=by grind
  rw [this,ih,e];grind
theorem bound_plain (fs:List Rat) (inc un i st ys:Nat) (r:Rat) (hck:chkE fs=0) (hu:0<un) (hr:r.num*(un:Int)=((un+i:Nat):Int)*(r.den:Int)) (hs:i=0∨sfQ (exL fs inc) (((un+1+(i-1):Nat):Int):Rat) (((un:Nat):Int):Rat)=true) :
  1≤r∧sfQ (exL fs inc) (r*(((comN 1 [r]:Nat):Int):Rat)) (((comN 1 [r]:Nat):Int):Rat)=true∧((1:Int):Rat)-phi (atR fs) fs.length inc ys st≤rpow r⁻¹ st∧((1:Int):Rat)-phi (atR fs) fs.length inc ys st≤((1:Int):Rat)-phi (atR fs) fs.length inc (ys+1) st∧((1:Int):Rat)-phi (atR fs) fs.length inc ys (st+1)≤((1:Int):Rat)-phi (atR fs) fs.length inc ys st:=by
 obtain ⟨-,-,hp,-⟩:=chk_some hck
 obtain ⟨h1,-⟩:=wayN_sum hck
 have hru:=rat_over hr
 have hun:(0:Rat)<(((un:Nat):Int):Rat):=Rat.intCast_pos.2 (by omega)
 have hri:r*(((un:Nat):Int):Rat)=(((un:Nat):Int):Rat)+(((i:Nat):Int):Rat):=by rw [hru,Int.natCast_add,Rat.intCast_add]
 have hi0:(0:Rat)≤(((i:Nat):Int):Rat):=Rat.intCast_nonneg.2 (by omega)
 have hr1:1≤r:=by
  refine Rat.le_of_mul_le_mul_right (c:=(((un:Nat):Int):Rat)) ?_ hun
  rw [hri];grind
 have hsafe:sgR (fun j=>atR fs j*powR r j) fs.length≤powR r inc:=by
  by_cases hi:i=0
  ·have hr0:r=1:=by
    have e:r*(((un:Nat):Int):Rat)=1*(((un:Nat):Int):Rat):=by
     rw [hri,hi]
     show _+(0:Rat)=_
     grind
    exact Rat.le_antisymm (Rat.le_of_mul_le_mul_right (by rw [e];exact Rat.le_refl) hun) hr1
   rw [hr0,powR_ones,sgR_congr _ (atR fs) fs.length (fun k _=>by rw [powR_ones];grind),h1]
   exact Rat.le_refl
  ·rcases hs with h | h
   ·exact absurd h hi
   ·rw [sf_tells fs inc _ _ r hun (by rw [hru,show un+1+(i-1)=un+i from by omega])] at h
    exact of_decide_eq_true h
 have hcp:(0:Rat)<(((comN 1 [r]:Nat):Int):Rat):=Rat.intCast_pos.2 (by have:=com_pos [r] 1 (by omega);omega)
 have hl:=lundberg (atR fs) fs.length inc (atR_pos hp) h1 r hr1 hsafe ys st
 refine ⟨hr1,?_,?_,?_,?_⟩
 ·rw [sf_tells fs inc _ _ r hcp rfl]
  exact decide_eq_true hsafe
 ·have hr0:0<r:=by grind
  refine Rat.le_of_mul_le_mul_right (c:=powR r st) ?_ (powR_pos r hr0 st)
  rw [rpow_down r hr0 st]
  exact hl
 ·have:=phi_years (atR fs) fs.length inc (atR_pos hp) h1 ys st
  grind
 ·have:=phi_start (atR fs) fs.length inc (atR_pos hp) h1 ys st
  grind
theorem powDown_any (v:Value) (f:Rat) (k:Nat) (w:World) (hf:FracAt w v f) (h0:f.num≠0) (hk:k≤200) (lf:Len f 1) :
  Calls Tryz.prog 38 #[v,.int .i64 (-(k:Int))] w fun e w'=>∃ v',e=.returned (.tuple #[v',.nilIface])∧FracAt w' v' (rpow f⁻¹ k)∧But [] w w':=by
 rcases Nat.eq_zero_or_pos k with rfl | hk0
 ·exact fracPow_up v f 0 w hf (by omega) (lf.mono (by omega))
 ·have hlt:=lf.lt
  rw [Nat.pow_one] at hlt
  exact fracPow_down v f k w hf h0 hk0 hk (lf.mono (by omega)) hlt.1 hlt.2
theorem len_down (f:Rat) (k:Nat) (h0:f.num≠0) (hk:k≤200) (lf:Len f 1):Len (rpow f⁻¹ k) 400:=by
 obtain ⟨i1,i2,-⟩:=inv_facts f h0
 obtain ⟨gn,gd⟩:=rpow_parts f⁻¹ k
 refine ⟨?_,?_⟩
 ·rw [gn,Int.natAbs_pow,i1]
  exact wd_pow_len _ k (Nat.le_trans lf.2 (by omega)) hk
 ·rw [gd,i2]
  exact wd_pow_len _ k (Nat.le_trans lf.1 (by omega)) hk
theorem bound_many (a:Option Addr) (n c:Nat) (x y z u:Int) (w:World) (hn:10<n) :
  Calls Tryz.prog 7 #[.int .i64 x,.int .i64 y,.slice a n c,.int .i64 z,.int .i64 u] w fun e w'=>e=.returned (.bool true)∧But [] w w':=by
 go_enter Tryz.func7,Tryz.ntmps7
 go_wp2
 go_ret
 exact ⟨rfl,But.refl _ _⟩
theorem pick_lt (x n:Int) (hn:0<n):((((if x<0 then x + 18446744073709551616 else x)%n).toNat:Nat):Int)<n:=by
 have h1:=Int.emod_lt_of_pos (if x<0 then x + 18446744073709551616 else x) hn
 have h2:=Int.emod_nonneg (if x<0 then x + 18446744073709551616 else x) (show n≠0 by omega)
 omega
theorem bound_few (v:Value) (qs:List (Int × Int)) (sx ix yx bx:Int) (hsx:-9223372036854775808≤sx∧sx<9223372036854775808) (hix:-9223372036854775808≤ix∧ix<9223372036854775808) (hyx:-9223372036854775808≤yx∧yx<9223372036854775808) (hbx:-9223372036854775808≤bx∧bx<9223372036854775808) (mx:Int) (w:World) (hv:QsAt w v qs) (hf:∀ q ∈ qs,Fits q) (hn:qs.length≤10)
  (htab:Lib.TabIs Tryz.prog w "internal/strconv.uint64pow10" .u64 Lib.pow10Tab) (hmx:w.cell? ⟨4,0,none⟩=some (.int .i64 mx)) :
  Calls Tryz.prog 7 #[.int .i64 sx,.int .i64 ix,v,.int .i64 yx,.int .i64 bx] w fun e w'=>e=.returned (.bool true)∧But [] w w':=by
 have LAW:=hide (fun W (h:But [] w W)=>plainLaw_any v qs W (hv.but h) hf (by omega))
 have lf:=fits_lenK hf
 have DI:=hide (fun W (h:But [] w W)=>dice_any mx W (TabIs.but htab h) (h.cell_some hmx (by simp)))
 have PS:=hide (pick_gen sx 20 hsx.1 hsx.2 (by omega) (by omega))
 have PI:=hide (pick_gen ix 8 hix.1 hix.2 (by omega) (by omega))
 have PY:=hide (pick_gen yx 5 hyx.1 hyx.2 (by omega) (by omega))
 have PB:=hide (pick_gen bx 5 hbx.1 hbx.2 (by omega) (by omega))
 have s1:=pick_lt sx 20 (by omega)
 have i1:=pick_lt ix 8 (by omega)
 have y1:=pick_lt yx 5 (by omega)
 have b1:=pick_lt bx 5 (by omega)
 obtain ⟨fs,hfs⟩:∃ fs,fs=qs.map qf:=⟨_,rfl⟩
 have hln:fs.length=qs.length:=by rw [hfs];simp
 rw [← hfs] at lf LAW
 obtain ⟨sl,cap,rfl,hcap,-⟩:=id hv
 generalize ((if sx<0 then sx + 18446744073709551616 else sx)%20).toNat=sa at *
 generalize ((if ix<0 then ix + 18446744073709551616 else ix)%8).toNat=ia at *
 generalize ((if yx<0 then yx + 18446744073709551616 else yx)%5).toNat=ya at *
 generalize ((if bx<0 then bx + 18446744073709551616 else bx)%5).toNat=ba at *
 have sa1:sa<20:=by omega
 have ia1:ia<8:=by omega
 have ya1:ya<5:=by omega
 have ba1:ba<5:=by omega
 have HT:=hide (And.intro htab hmx)
 obtain ⟨n,hnq⟩:∃ n,n=qs.length:=⟨_,rfl⟩
 rw [← hnq] at hn hln hcap LAW
 rw [← hnq]
 clear hv hf hsx hix hyx hbx htab hmx hfs hnq s1 i1 y1 b1
 go_enter Tryz.func7,Tryz.ntmps7
 go_wp2_with fail
 refine (unhide PS _).mono ?_
 rintro e w1 ⟨rfl,hb1⟩
 have B1:=hide hb1
 clear hb1 PS
 go_wp2_with fail
 refine (unhide PI _).mono ?_
 rintro e w2 ⟨rfl,hb2⟩
 have B2:=hide ((unhide B1).trans' hb2)
 clear hb2 PI B1
 go_wp2_with fail
 refine (unhide PY _).mono ?_
 rintro e w3 ⟨rfl,hb3⟩
 have B3:=hide ((unhide B2).trans' hb3)
 clear hb3 PY B2
 go_wp2_with fail
 refine (unhide PB _).mono ?_
 rintro e w4 ⟨rfl,hb4⟩
 have B4:=hide ((unhide B3).trans' hb4)
 clear hb4 PB B3
 go_wp2_with fail
 refine (unhide LAW _ (unhide B4)).mono ?_
 rintro e w5 ⟨x,rfl,hx,hb5⟩
 have B5:=hide ((unhide B4).trans' hb5)
 have htab:=TabIs.but (unhide HT).1 (unhide B5)
 have hmx:=(unhide B5).cell_some (unhide HT).2 (by simp)
 clear hb5 LAW B4 HT
 by_cases hck:chkE fs=0
 ·have hU20:(wd 18446744073709551616 (comN 1 fs)).length≤20:=by
   refine Nat.le_trans (comN_len 1 fs 1 lf) ?_
   have h1:(wd 18446744073709551616 1).length≤1:=wd_length_le (by omega) _ 1 (by omega)
   omega
  have lx:∀ f ∈ exL fs ia,Len f 100:=fun f hf=>(exL_short ia 20 hck hU20 (by omega) f hf).mono (by omega)
  obtain ⟨un,hun⟩:∃ un,un=2^ba:=⟨_,rfl⟩
  have hu0:0<un:=by rw [hun];exact Nat.one_le_two_pow
  have BE:=hide (fun W (h:But [] w5 W)=>ruinBest_ok x fs ia ba un W mx 1 (hx.but h) (by omega) (by omega) (by omega) hun lf (by omega) hck lx (TabIs.but htab h) (h.cell_some hmx (by simp)))
  have WI:=hide (fun W st ys (hst:st≤60) (hys:ys≤6) (h:But [] w5 W)=>within_ok x fs st ia ys W mx (hx.but h) (by omega) hst (by omega) hys lf hU20 hck (TabIs.but htab h) (h.cell_some hmx (by simp)))
  have SA:Hid (∀ W vr r,But [] w5 W→FracAt W vr r→Len r 1→1≤r→sfQ (exL fs ia) (r*(((comN 1 [r]:Nat):Int):Rat)) (((comN 1 [r]:Nat):Int):Rat)=true→Calls Tryz.prog 37 #[.int .i64 (ia:Int),x,vr] W fun e w'=>e=.returned (.tuple #[.bool true,.nilIface])∧But [] W w'):=fun W vr r h hr lr h1 hsf=>by
   have lu:Len (((comN 1 [r]:Nat):Int):Rat) 2:=by
    refine nat_len _ _ (Nat.le_refl _) (Nat.le_trans (comN_len 1 [r] 1 (fun f hf=>by simp at hf;subst hf;exact lr)) ?_) (by omega)
    have h1:(wd 18446744073709551616 1).length≤1:=wd_length_le (by omega) _ 1 (by omega)
    simp
    omega
   have h2:=ruinSafe_any x vr fs ia r W mx 1 (hx.but h) hr (by omega) (by omega) lf (by omega) hck h1 lr (len_mul lr lu 100 (by omega)) (lu.mono (by omega)) lx (TabIs.but htab h) (h.cell_some hmx (by simp))
   rw [hsf] at h2
   exact h2
  have BP:=hide (fun i r hr hs=>bound_plain fs ia un i sa ya r hck hu0 hr hs)
  obtain ⟨xq,xc,rfl,-,-⟩:=id hx
  clear hx htab hmx lf hU20 lx hck hun
  rw [hln] at BE WI SA
  rw [hln]
  go_wp2_with fail
  refine (unhide BE _ (But.refl _ _)).mono ?_
  rintro e w6 ⟨i,r,s,px,py,pp,rfl,hf6,lr,hrr,-,hsf,hb6⟩
  obtain ⟨hr1,hsq,hle1,hle2,hle3⟩:=unhide BP i r hrr hsf
  have hr0:r.num≠0:=fun h=>by
   have:=Rat.num_eq_zero.1 h
   rw [this] at hr1
   exact absurd hr1 (by decide)
  have bs:=hb6.trans' ((But.refl _ _).alloc (.cells #[.bool s,.int .u64 px,.int .u64 py,.pointer pp] 29))
  have T6:=hide bs
  have R6:=hide (BoxAt.new w6 s px py pp _ 29 hf6)
  have LR:=hide lr
  have HR0:=hide hr0
  have HR1:=hide hr1
  have HSQ:=hide hsq
  have HLE:=hide (And.intro hle1 (And.intro hle2 hle3))
  clear hb6 hf6 bs BE BP hrr hsf lr hr0 hr1 hsq hle1 hle2 hle3
  go_wp2_with fail
  generalize w6.heap.size=g12 at *
  generalize w6.alloc (.cells #[.bool s,.int .u64 px,.int .u64 py,.pointer pp] 29)=V6 at *
  refine (unhide WI _ sa ya (by omega) (by omega) (unhide T6)).mono ?_
  rintro e w7 ⟨s7,x7,y7,p7,rfl,hf7,l7,hb7⟩
  have bs:=hb7.trans' ((But.refl _ _).alloc (.cells #[.bool s7,.int .u64 x7,.int .u64 y7,.pointer p7] 29))
  have T7:=hide ((unhide T6).trans' bs)
  have R7:=hide ((unhide R6).but bs)
  have P7:=hide (BoxAt.new w7 s7 x7 y7 p7 _ 29 hf7)
  have L7:=hide l7
  clear hb7 hf7 bs T6 R6 l7
  go_wp2_with fail
  generalize w7.heap.size=g14 at *
  generalize w7.alloc (.cells #[.bool s7,.int .u64 x7,.int .u64 y7,.pointer p7] 29)=V7 at *
  refine (unhide DI _ ((unhide B5).trans' (unhide T7))).mono ?_
  rintro e w8 ⟨rfl,hb8⟩
  have T8:=hide ((unhide T7).trans' hb8)
  have R8:=hide ((unhide R7).but hb8)
  have P8:=hide ((unhide P7).but hb8)
  clear hb8 T7 R7 P7
  obtain ⟨⟨t1,a1,b1,q1',⟨k0,k1,k2,k3⟩,fR⟩,-⟩:=unhide R8
  have SC:=hide (unhide SA w8 _ r (unhide T8) fR (unhide LR) (unhide HR1) (unhide HSQ))
  clear fR SA
  go_wp2_with fail
  refine (unhide SC).mono ?_
  rintro e w9 ⟨rfl,hb9⟩
  have T9:=hide ((unhide T8).trans' hb9)
  have R9:=hide ((unhide R8).but hb9)
  have P9:=hide ((unhide P8).but hb9)
  clear hb9 T8 R8 P8 k0 k1 k2 k3 SC
  obtain ⟨⟨t1,a1,b1,q1',⟨k0,k1,k2,k3⟩,fR⟩,-⟩:=unhide R9
  have PC:=hide (powDown_any _ r sa w9 fR (unhide HR0) (by omega) (unhide LR))
  have LD:=hide (len_down r sa (unhide HR0) (by omega) (unhide LR))
  clear fR
  go_wp2_with fail
  refine (unhide PC).mono ?_
  rintro e w10 ⟨v10,rfl,hf10,hb10⟩
  obtain ⟨x10,y10,p10,rfl,-⟩:=id hf10.agg
  generalize hBD:rpow r⁻¹ sa=BD at *
  generalize decide (BD.num<0)=s10 at *
  have bs:=hb10.trans' ((But.refl _ _).alloc (.cells #[.bool s10,.int .u64 x10,.int .u64 y10,.pointer p10] 29))
  have T10:=hide ((unhide T9).trans' bs)
  have P10:=hide ((unhide P9).but bs)
  have D10:=hide (BoxAt.new w10 s10 x10 y10 p10 _ 29 hf10)
  clear hb10 hf10 bs T9 R9 P9 k0 k1 k2 k3 PC hBD
  go_wp2_with fail
  generalize w10.heap.size=g18 at *
  generalize w10.alloc (.cells #[.bool s10,.int .u64 x10,.int .u64 y10,.pointer p10] 29)=V10 at *
  rw [show (ya:Int)+1=((ya+1:Nat):Int) from by omega]
  refine (unhide WI _ sa (ya+1) (by omega) (by omega) (unhide T10)).mono ?_
  rintro e w11 ⟨s11,x11,y11,p11,rfl,hf11,l11,hb11⟩
  have bs:=hb11.trans' ((But.refl _ _).alloc (.cells #[.bool s11,.int .u64 x11,.int .u64 y11,.pointer p11] 29))
  have T11:=hide ((unhide T10).trans' bs)
  have P11:=hide ((unhide P10).but bs)
  have D11:=hide ((unhide D10).but bs)
  have M11:=hide (BoxAt.new w11 s11 x11 y11 p11 _ 29 hf11)
  have L11:=hide l11
  clear hb11 hf11 bs T10 P10 D10 l11
  go_wp2_with fail
  generalize w11.heap.size=g20 at *
  generalize w11.alloc (.cells #[.bool s11,.int .u64 x11,.int .u64 y11,.pointer p11] 29)=V11 at *
  rw [show (sa:Int)+1=((sa+1:Nat):Int) from by omega]
  refine (unhide WI _ (sa+1) ya (by omega) (by omega) (unhide T11)).mono ?_
  rintro e w12 ⟨s12,x12,y12,p12,rfl,hf12,l12,hb12⟩
  have bs:=hb12.trans' ((But.refl _ _).alloc (.cells #[.bool s12,.int .u64 x12,.int .u64 y12,.pointer p12] 29))
  have T12:=hide ((unhide T11).trans' bs)
  have P12:=hide ((unhide P11).but bs)
  have D12:=hide ((unhide D11).but bs)
  have M12:=hide ((unhide M11).but bs)
  have E12:=hide (BoxAt.new w12 s12 x12 y12 p12 _ 29 hf12)
  have L12:=hide l12
  clear hb12 hf12 bs T11 P11 D11 M11 l12 WI
  obtain ⟨A,hA⟩:∃ A,A=((1:Int):Rat)-phi (atR fs) n ia ya sa:=⟨_,rfl⟩
  obtain ⟨C,hC⟩:∃ C,C=((1:Int):Rat)-phi (atR fs) n ia (ya+1) sa:=⟨_,rfl⟩
  obtain ⟨E,hE⟩:∃ E,E=((1:Int):Rat)-phi (atR fs) n ia ya (sa+1):=⟨_,rfl⟩
  rw [hln,← hA,← hC,← hE] at HLE
  rw [← hA] at P12 L7
  rw [← hC] at M12 L11
  rw [← hE] at E12 L12
  clear hA hC hE
  obtain ⟨V,hV⟩:∃ V,V=w12.alloc (.cells #[.bool s12,.int .u64 x12,.int .u64 y12,.pointer p12] 29):=⟨_,rfl⟩
  rw [← hV] at T12 P12 D12 M12 E12
  obtain ⟨g22,hg22⟩:∃ g22,g22=w12.heap.size:=⟨_,rfl⟩
  rw [← hg22] at E12
  obtain ⟨r1,hr1⟩:∃ r1,r1=cmpZ (A.num*(BD.den:Int)) (BD.num*(A.den:Int)):=⟨_,rfl⟩
  obtain ⟨r2,hr2⟩:∃ r2,r2=cmpZ (C.num*(A.den:Int)) (A.num*(C.den:Int)):=⟨_,rfl⟩
  obtain ⟨r3,hr3⟩:∃ r3,r3=cmpZ (E.num*(A.den:Int)) (A.num*(E.den:Int)):=⟨_,rfl⟩
  have c1:r1≤0:=Int.not_lt.1 (fun h=>absurd (unhide HLE).1 (Rat.not_le.2 ((cmpZ_tells A BD r1 hr1).2.1.1 h)))
  have c2:0≤r2:=Int.not_lt.1 (fun h=>absurd (unhide HLE).2.1 (Rat.not_le.2 ((cmpZ_tells C A r2 hr2).1.1 h)))
  have c3:r3≤0:=Int.not_lt.1 (fun h=>absurd (unhide HLE).2.2 (Rat.not_le.2 ((cmpZ_tells E A r3 hr3).2.1.1 h)))
  have CM1:Hid (∀ W va vb,FracAt W va A→FracAt W vb BD→Calls Tryz.prog 25 #[va,vb] W fun e w'=>e=.returned (.int .i64 r1)∧But [] W w'):=fun W va vb h1 h2=>fracCmp_any va vb A BD W h1 h2 ((unhide L7).mono (by omega)) ((unhide LD).mono (by omega)) r1 hr1
  have CM2:Hid (∀ W va vb,FracAt W va C→FracAt W vb A→Calls Tryz.prog 25 #[va,vb] W fun e w'=>e=.returned (.int .i64 r2)∧But [] W w'):=fun W va vb h1 h2=>fracCmp_any va vb C A W h1 h2 ((unhide L11).mono (by omega)) ((unhide L7).mono (by omega)) r2 hr2
  have CM3:Hid (∀ W va vb,FracAt W va E→FracAt W vb A→Calls Tryz.prog 25 #[va,vb] W fun e w'=>e=.returned (.int .i64 r3)∧But [] W w'):=fun W va vb h1 h2=>fracCmp_any va vb E A W h1 h2 ((unhide L12).mono (by omega)) ((unhide L7).mono (by omega)) r3 hr3
  clear hr1 hr2 hr3 HLE
  obtain ⟨⟨tp,ap,bp,qp,⟨k0,k1,k2,k3⟩,fP⟩,-⟩:=unhide P12
  obtain ⟨⟨td,ad,bd,qd,⟨l0,l1,l2,l3⟩,fD⟩,-⟩:=unhide D12
  have CMa:=hide (unhide CM1 V _ _ fP fD)
  rw [hV] at k0 k1 k2 k3 l0 l1 l2 l3
  clear fP fD
  go_wp2_with fail
  rw [← hV]
  refine (unhide CMa).mono ?_
  rintro e w13 ⟨rfl,hb13⟩
  have T13:=hide ((unhide T12).trans' hb13)
  have P13:=hide ((unhide P12).but hb13)
  have M13:=hide ((unhide M12).but hb13)
  have E13:=hide ((unhide E12).but hb13)
  rw [← hg22]
  clear hb13 T12 P12 D12 M12 E12 k0 k1 k2 k3 l0 l1 l2 l3 CMa hV hg22
  obtain ⟨⟨tp,ap,bp,qp,⟨k0,k1,k2,k3⟩,fP⟩,-⟩:=unhide P13
  obtain ⟨⟨td,ad,bd,qd,⟨l0,l1,l2,l3⟩,fD⟩,-⟩:=unhide M13
  have CMb:=hide (unhide CM2 _ _ _ fD fP)
  clear fP fD
  go_wp2_with fail
  refine (unhide CMb).mono ?_
  rintro e w14 ⟨rfl,hb14⟩
  have T14:=hide ((unhide T13).trans' hb14)
  have P14:=hide ((unhide P13).but hb14)
  have E14:=hide ((unhide E13).but hb14)
  clear hb14 T13 P13 M13 E13 k0 k1 k2 k3 l0 l1 l2 l3 CMb
  obtain ⟨⟨tp,ap,bp,qp,⟨k0,k1,k2,k3⟩,fP⟩,-⟩:=unhide P14
  obtain ⟨⟨td,ad,bd,qd,⟨l0,l1,l2,l3⟩,fD⟩,-⟩:=unhide E14
  have CMc:=hide (unhide CM3 _ _ _ fD fP)
  clear fP fD
  go_wp2_with fail
  refine (unhide CMc).mono ?_
  rintro e w15 ⟨rfl,hb15⟩
  have T15:=hide ((unhide T14).trans' hb15)
  clear hb15 T14 P14 E14 k0 k1 k2 k3 l0 l1 l2 l3 CMc
  go_wp2
  go_ret
  exact ⟨rfl,(unhide B5).trans' (unhide T15)⟩
 ·have BE:=hide (fun W (h:But [] w5 W)=>ruinBest_err x fs ia ba W 1 (hx.but h) (by omega) (by omega) lf (by omega) hck)
  have WI:=hide (fun W (h:But [] w5 W)=>within_err x fs sa ia ya W 1 (hx.but h) (by omega) (by omega) (by omega) (by omega) lf (by omega) hck)
  generalize chkE fs=ce at *
  obtain ⟨xq,xc,rfl,-,-⟩:=id hx
  clear hx htab hmx lf hck
  rw [hln] at BE WI
  rw [hln]
  go_wp2_with fail
  refine (unhide BE _ (But.refl _ _)).mono ?_
  rintro e w6 ⟨rfl,hb6⟩
  have T6:=hide (hb6.trans' ((But.refl _ _).alloc (.cells #[.bool false,.int .u64 0,.int .u64 0,.pointer none] 29)))
  clear hb6 BE
  go_wp2_with fail
  generalize w6.alloc (.cells #[.bool false,.int .u64 0,.int .u64 0,.pointer none] 29)=V6 at *
  refine (unhide WI _ (unhide T6)).mono ?_
  rintro e w7 ⟨rfl,hb7⟩
  have T7:=hide (((unhide T6).trans' hb7).trans' ((But.refl _ _).alloc (.cells #[.bool false,.int .u64 0,.int .u64 0,.pointer none] 29)))
  clear hb7 WI T6
  go_wp2_with fail
  generalize w7.alloc (.cells #[.bool false,.int .u64 0,.int .u64 0,.pointer none] 29)=V7 at *
  refine (unhide DI _ ((unhide B5).trans' (unhide T7))).mono ?_
  rintro e w8 ⟨rfl,hb8⟩
  have T8:=hide ((unhide T7).trans' hb8)
  clear hb8 T7
  go_wp2_with fail
  refine (unhide DI _ ((unhide B5).trans' (unhide T8))).mono ?_
  rintro e w9 ⟨rfl,hb9⟩
  have T9:=hide ((unhide T8).trans' hb9)
  clear hb9 T8
  go_wp2
  go_ret
  exact ⟨rfl,(unhide B5).trans' (unhide T9)⟩
theorem bound_any (v:Value) (qs:List (Int × Int)) (sx ix yx bx:Int) (hsx:-9223372036854775808≤sx∧sx<9223372036854775808) (hix:-9223372036854775808≤ix∧ix<9223372036854775808) (hyx:-9223372036854775808≤yx∧yx<9223372036854775808) (hbx:-9223372036854775808≤bx∧bx<9223372036854775808) (mx:Int) (w:World) (hv:QsAt w v qs) (hf:∀ q ∈ qs,Fits q)
  (htab:Lib.TabIs Tryz.prog w "internal/strconv.uint64pow10" .u64 Lib.pow10Tab) (hmx:w.cell? ⟨4,0,none⟩=some (.int .i64 mx)) :
  Calls Tryz.prog 7 #[.int .i64 sx,.int .i64 ix,v,.int .i64 yx,.int .i64 bx] w fun e w'=>e=.returned (.bool true)∧But [] w w':=by
 by_cases hn:qs.length≤10
 ·exact bound_few v qs sx ix yx bx hsx hix hyx hbx mx w hv hf hn htab hmx
 ·obtain ⟨a,c,rfl,-,-⟩:=hv
  exact bound_many a qs.length c sx ix yx bx w (by omega)
end Go.Proofs.YtloojmaamaambaaGreatDoor
