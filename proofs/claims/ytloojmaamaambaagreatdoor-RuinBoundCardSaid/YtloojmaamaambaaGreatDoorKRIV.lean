/- Whole numbers of a law's chances, and wh -/
import Derived.Test.YtloojmaamaambaaGreatDoorKRID
import Derived.Test.YtloojmaamaambaaGreatDoorKRIS
import Derived.Test.YtloojmaamaambaaGreatDoorKRRM
namespace Go.Proofs.YtloojmaamaambaaGreatDoor
open Go.RowKit
theorem rat_den (f:Rat):f*((f.den:Int):Rat)=((f.num:Int):Rat):=by
 have h0:((f.den:Int):Rat)≠0:=fun h=>by
  have h2:((f.den:Int):Rat)=((0:Int):Rat):=h
  have:=Rat.intCast_inj.1 h2
  have:=den_pos f
  omega
 have h2:=Rat.div_mul_cancel (a:=((f.num:Int):Rat)) h0
 rw [← Rat.divInt_eq_div,Rat.num_divInt_den] at h2
 exact h2
theorem com_mult:∀ (fs:List Rat) (U:Nat),∃ k,comN U fs=U*k
 | [],U=>⟨1,by rw [Nat.mul_one];rfl⟩
 | f::fs,U=>by
  obtain ⟨k,hk⟩:=com_mult fs (comStep U f)
  exact ⟨(f*(((U:Nat):Int):Rat)).den*k,by
   show comN (comStep U f) fs=_
   rw [hk]
   unfold comStep
   rw [Nat.mul_assoc]⟩
theorem com_whole:∀ (fs:List Rat) (U:Nat) (f:Rat),f ∈ fs→∃ z:Int,f*(((comN U fs:Nat):Int):Rat)=((z:Int):Rat)
 | [],_,f,h=>by simp at h
 | g::fs,U,f,h=>by
  rcases List.mem_cons.1 h with rfl | h2
  ·obtain ⟨k,hk⟩:=com_mult fs (comStep U f)
   refine ⟨(f*(((U:Nat):Int):Rat)).num*(k:Int),?_⟩
   show f*(((comN (comStep U f) fs:Nat):Int):Rat)=_
   have e:=rat_den (f*(((U:Nat):Int):Rat))
   rw [hk]
   unfold comStep
   rw [Int.natCast_mul,Int.natCast_mul,Rat.intCast_mul,Rat.intCast_mul,Rat.intCast_mul,← e]
   grind
  ·exact com_whole fs (comStep U g) f h2
theorem com_pos:∀ (fs:List Rat) (U:Nat),0<U→0<comN U fs
 | [],_,h=>h
 | f::fs,U,h=>com_pos fs (comStep U f) (Nat.mul_pos h (den_pos _))
def wayN (fs:List Rat) (k:Nat):Nat:=(atR fs k*(((comN 1 fs:Nat):Int):Rat)).num.toNat
theorem atR_zero {fs:List Rat} {k:Nat} (h:fs.length≤k):atR fs k=0:=by
 unfold atR
 rw [List.getElem?_eq_none (by omega)];rfl
theorem atR_pos {fs:List Rat} (h:∀ f ∈ fs,0≤f) (k:Nat):0≤atR fs k:=by
 by_cases hk:k<fs.length
 ·unfold atR
  rw [List.getElem?_eq_getElem hk]
  exact h _ (List.getElem_mem hk)
 ·rw [atR_zero (by omega)];decide
theorem wayN_is {fs:List Rat} (h:∀ f ∈ fs,0≤f) (k:Nat):(((wayN fs k:Nat):Int):Rat)=atR fs k*(((comN 1 fs:Nat):Int):Rat):=by
 unfold wayN
 have hU:(0:Rat)≤(((comN 1 fs:Nat):Int):Rat):=by
  have:(0:Int)≤(comN 1 fs:Int):=by omega
  exact Rat.intCast_nonneg.2 this
 have h0:=Rat.mul_nonneg (atR_pos h k) hU
 by_cases hk:k<fs.length
 ·obtain ⟨z,hz⟩:=com_whole fs 1 (atR fs k) (by
   unfold atR
   rw [List.getElem?_eq_getElem hk]
   exact List.getElem_mem hk)
  rw [hz] at h0 ⊢
  rw [Rat.num_intCast]
  have:=Rat.intCast_nonneg.1 h0
  rw [Int.toNat_of_nonneg this]
 ·rw [atR_zero (by omega),Rat.zero_mul];rfl
theorem downs_dnF (n:Nat):∀ d,d≤n→(downsF n (n-d)).map (fun z:Fin n=>z.1)=dnL n d
 | 0,_=>by
  rw [Nat.sub_zero,downs_endF];rfl
 | d+1,h=>by
  rw [downs_nextF n (n-(d+1)) (by omega),List.map_append,show n-(d+1)+1=n-d from by omega,downs_dnF n d (by omega)]
  rfl
theorem exL_at (fs:List Rat) (inc j:Nat) (hj:j<max fs.length (inc+1)):(exL fs inc)[j]?.getD 0=atR fs j*(((comN 1 fs:Nat):Int):Rat)-(if j=inc then (((comN 1 fs:Nat):Int):Rat) else 0):=by
 unfold exL
 rw [List.getElem?_map,List.getElem?_range hj]
 show exF fs inc (comN 1 fs) j=_
 unfold exF
 by_cases h:j<fs.length
 ·rw [if_pos h];rfl
 ·rw [if_neg h,atR_zero (by omega)];grind
theorem sf_tells (fs:List Rat) (inc:Nat) (o u r:Rat) (hu:0<u) (ho:o=r*u):sfQ (exL fs inc) o u=decide (sgR (fun j=>atR fs j*powR r j) fs.length≤powR r inc):=by
 have hU:(0:Rat)<(((comN 1 fs:Nat):Int):Rat):=by
  have h:=com_pos fs 1 (by omega)
  have:(0:Int)<(comN 1 fs:Int):=by omega
  exact Rat.intCast_pos.2 this
 have hz:=exL_len fs inc
 have ed:(downsF (exL fs inc).length 0).map (fun z:Fin (exL fs inc).length=>z.1)=dnL (exL fs inc).length (exL fs inc).length:=by
  have:=downs_dnF (exL fs inc).length (exL fs inc).length (Nat.le_refl _)
  rw [Nat.sub_self] at this
  exact this
 unfold sfQ
 rw [ed,hz]
 exact decide_eq_decide.2 (horn_tells (atR fs) (fun t=>(exL fs inc)[t]?.getD 0) fs.length inc (max fs.length (inc+1)) _ r o u hU hu ho (Nat.le_max_left _ _) (by omega) (fun k hk=>atR_zero hk) (fun j hj=>exL_at fs inc j hj))
theorem wayN_sum {fs:List Rat} (h:chkE fs=0):sgR (atR fs) fs.length=1∧sgN (wayN fs) fs.length=comN 1 fs:=by
 obtain ⟨-,-,hp,hs⟩:=chk_some h
 rw [sumR_all] at hs
 exact ⟨hs,sgN_law (atR fs) (wayN fs) fs.length _ (wayN_is hp) hs⟩
theorem exL_short {fs:List Rat} (inc L:Nat) (h:chkE fs=0) (hL:(wd 18446744073709551616 (comN 1 fs)).length≤L) (h1:1≤L) (f:Rat) (hf:f ∈ exL fs inc):Len f (2*L+1):=by
 obtain ⟨-,-,hp,-⟩:=chk_some h
 obtain ⟨-,hs⟩:=wayN_sum h
 obtain ⟨j,hj,rfl⟩:=List.mem_iff_getElem.1 hf
 have hj2:j<max fs.length (inc+1):=by rw [← exL_len fs inc];exact hj
 have e:=exL_at fs inc j hj2
 rw [List.getElem?_eq_getElem hj,Option.getD_some] at e
 rw [e,← wayN_is hp j]
 have l1:Len (((wayN fs j:Nat):Int):Rat) L:=by
  refine nat_len _ (comN 1 fs) ?_ hL h1
  by_cases hk:j<fs.length
  ·have:∀ n,j<n→wayN fs j≤sgN (wayN fs) n:=fun n=>by
    induction n with
    | zero=>intro h;omega
    | succ n ih =>
     intro h
     by_cases e:j=n
     ·subst e;exact Nat.le_add_left _ _
     ·exact Nat.le_trans (ih (by omega)) (Nat.le_add_right _ _)
   rw [← hs]
   exact this _ hk
  ·have:=wayN_is hp j
   rw [atR_zero (by omega),Rat.zero_mul] at this
   have h0:(((wayN fs j:Nat):Int):Rat)=(((0:Nat):Int):Rat):=this
   rw [nat_rat h0]
   exact Nat.zero_le _
 have l2:Len (if j=inc then (((comN 1 fs:Nat):Int):Rat) else 0) L:=by
  by_cases hi:j=inc
  ·rw [if_pos hi];exact nat_len _ _ (Nat.le_refl _) hL h1
  ·rw [if_neg hi];exact len_zero _ h1
 exact len_sub l1 l2 _ (by omega)
end Go.Proofs.YtloojmaamaambaaGreatDoor

namespace Go.Proofs.YtloojmaamaambaaGreatDoor
open Go.RowKit
set_option maxHeartbeats 16000000
set_option maxRecDepth 100000
theorem within_err (v:Value) (fs:List Rat) (st inc ys:Nat) (w:World) (c:Nat) (hv:FracsAt w v fs) (hl:fs.length≤41) (hst:st≤60) (hi:inc≤20) (hys:ys≤16) (lf:∀ f ∈ fs,Len f c) (hc:c≤100) (hk:chkE fs≠0) :
  Calls Tryz.prog 36 #[.int .i64 (st:Int),.int .i64 (inc:Int),v,.int .i64 (ys:Int)] w fun e w'=>e=.returned (.tuple #[.agg #[.bool false,.int .u64 0,.int .u64 0,.pointer none],.iface 54 (.int .i64 (chkE fs))])∧But [] w w':=by
 have F0:=hide (fun W=>from0_any (st:Int) 60 (by omega) (by omega) (by omega) W)
 have F1:=hide (fun W=>from0_any (inc:Int) 20 (by omega) (by omega) (by omega) W)
 have F2:=hide (fun W=>from0_any (ys:Int) 16 (by omega) (by omega) (by omega) W)
 have CK:=hide (fun W (h:But [] w W)=>ruinCheck_any v fs c W (hv.but h) hl lf hc)
 obtain ⟨q,cap,rfl,hcap,-⟩:=id hv
 have x2:=BoxAt.new w false 0 0 none 0 29 (zero_at _)
 have bA:But [] w (w.alloc (.cells #[.bool false,.int .u64 0,.int .u64 0,.pointer none] 29)):=(But.refl _ _).alloc _
 have X2:=hide x2
 have BA:=hide bA
 generalize hce:chkE fs=ce at *
 generalize fs.length=n at *
 have Q2:Hid (w.heap.size≤w.heap.size):=Nat.le_refl _
 clear x2 bA hv lf hcap hce
 go_enter Tryz.func36,Tryz.ntmps36
 go_wp2_with fail
 refine (unhide F0 _).mono ?_
 rintro e w1 ⟨rfl,hb1⟩
 have B1:=hide ((unhide BA).trans' hb1)
 have X21:=hide ((unhide X2).but hb1)
 clear hb1 X2 BA F0
 go_wp2_with fail
 refine (unhide F1 _).mono ?_
 rintro e w2 ⟨rfl,hb2⟩
 have B2:=hide ((unhide B1).trans' hb2)
 have X22:=hide ((unhide X21).but hb2)
 clear hb2 X21 B1 F1
 go_wp2_with fail
 refine (unhide F2 _).mono ?_
 rintro e w3 ⟨rfl,hb3⟩
 have B3:=hide ((unhide B2).trans' hb3)
 have X23:=hide ((unhide X22).but hb3)
 clear hb3 X22 B2 F2
 go_wp2_with fail
 refine (unhide CK _ (unhide B3)).mono ?_
 rintro e w4 ⟨rfl,hb4⟩
 have B4:=hide ((unhide B3).trans' hb4)
 have X24:=hide ((unhide X23).but hb4)
 clear hb4 X23 B3 CK
 generalize hg2:w.heap.size=g2 at *
 obtain ⟨⟨t2,a2,b2,q2,⟨c0,c1,c2,c3⟩,-⟩,z2⟩:=unhide X24
 have P2:Hid (P4 w4 g2 t2 a2 b2 q2):=⟨c0,c1,c2,c3⟩
 unfold errV
 rw [if_neg hk]
 go_wp2
 have hP:=put4_but w4 g2 false 0 0 none
 obtain ⟨m0,m1,m2,m3⟩:=put4_p4 w4 g2 false 0 0 none (unhide P2)
 have hF:But [] w (put4 w4 g2 false 0 0 none):=(unhide B4).trans hP (fun x hx=>by simp at hx;subst hx;exact .inr (by omega))
 change bodyPost _ _ _ _ _ (put4 w4 g2 false 0 0 none)
 generalize put4 w4 g2 false 0 0 none=F at *
 exact bodyPost_ret (v:=.tuple #[.agg #[.bool false,.int .u64 0,.int .u64 0,.pointer none],.iface 54 (.int .i64 ce)]) (by simp [results,Tryz.results36,go_sem,m0,m1,m2,m3]) rfl ⟨rfl,hF⟩
theorem within_ok (v:Value) (fs:List Rat) (st inc ys:Nat) (w:World) (m:Int) (hv:FracsAt w v fs) (hl:fs.length≤41) (hst:st≤60) (hi:inc≤20) (hys:ys≤6) (lf:∀ f ∈ fs,Len f 1) (hU20:(wd 18446744073709551616 (comN 1 fs)).length≤20) (hk:chkE fs=0) (htab:Lib.TabIs Tryz.prog w "internal/strconv.uint64pow10" .u64 Lib.pow10Tab) (hm:w.cell? ⟨4,0,none⟩=some (.int .i64 m)) :
  Calls Tryz.prog 36 #[.int .i64 (st:Int),.int .i64 (inc:Int),v,.int .i64 (ys:Int)] w fun e w'=>∃ s x y p,e=.returned (.tuple #[.agg #[.bool s,.int .u64 x,.int .u64 y,.pointer p],.nilIface])∧FracAt w' (.agg #[.bool s,.int .u64 x,.int .u64 y,.pointer p]) (((1:Int):Rat)-phi (atR fs) fs.length inc ys st)∧Len (((1:Int):Rat)-phi (atR fs) fs.length inc ys st) 10000∧But [] w w':=by
 obtain ⟨hn0,-,hp,-⟩:=chk_some hk
 obtain ⟨hsum1,hsumN⟩:=wayN_sum hk
 have hUpos:=com_pos fs 1 (by omega)
 obtain ⟨U,hUU⟩:∃ U,U=comN 1 fs:=⟨_,rfl⟩
 have hway:=wayN_is hp
 obtain ⟨e1,e2⟩:=int_parts (U:Int)
 have hphi:=lasts_phi (atR fs) (wayN fs) fs.length inc U (by omega) (by rw [hUU];exact hway) ys st
 have lA:Len (lsR (wayN fs) fs.length inc ys st) 1000:=by
  have h3:20*ys≤20*20:=Nat.mul_le_mul_left _ (by omega)
  exact nat_len _ _ (lsN_le (wayN fs) fs.length inc _ hsumN ys st) (Nat.le_trans (wd_pow_gen _ ys 20 hU20) (by omega)) (by omega)
 have lB:Len (powR (((U:Nat):Int):Rat) ys) 1000:=by
  rw [powR_nat,hUU]
  have h3:20*ys≤20*20:=Nat.mul_le_mul_left _ (by omega)
  exact nat_len _ _ (Nat.le_refl _) (Nat.le_trans (wd_pow_gen _ ys 20 hU20) (by omega)) (by omega)
 have hB0:(powR (((U:Nat):Int):Rat) ys).num≠0:=fun h=>by
  have hz:=Rat.num_eq_zero.1 h
  have hpos:=powR_pos (((U:Nat):Int):Rat) (by
   have:(0:Int)<(U:Int):=by omega
   exact Rat.intCast_pos.2 this) ys
  rw [hz] at hpos
  exact absurd hpos (by decide)
 have lQ:Len (phi (atR fs) fs.length inc ys st) 2000:=by
  rw [← hphi]
  exact len_div lA lB hB0 2000 (by omega)
 have lR:Len (((1:Int):Rat)-phi (atR fs) fs.length inc ys st) 10000:=len_sub ((len_int 1 (by decide)).mono (show 1≤1 by omega)) lQ 10000 (by omega)
 have F0:=hide (fun W=>from0_any (st:Int) 60 (by omega) (by omega) (by omega) W)
 have F1:=hide (fun W=>from0_any (inc:Int) 20 (by omega) (by omega) (by omega) W)
 have F2:=hide (fun W=>from0_any (ys:Int) 16 (by omega) (by omega) (by omega) W)
 have CK:=hide (fun W (h:But [] w W)=>ruinCheck_any v fs 1 W (hv.but h) hl lf (by omega))
 rw [hk] at CK
 have YO:=hide (fun W (h:But [] w W)=>yearOf_any inc v fs W m 1 (hv.but h) (by omega) lf (by omega) (TabIs.but htab h) (h.cell_some hm (by simp)))
 rw [← hUU] at YO hU20 hsumN
 have LAS:Hid (∀ (g:Nat) (s:Bool) (x y:Int) (p:Option Addr) (W:World),FracAt W (.agg #[.bool s,.int .u64 x,.int .u64 y,.pointer p]) (((U:Nat):Int):Rat)→RowOf W g fs.length (fun i=>fs[i]?.getD 0*(((U:Nat):Int):Rat))→Calls Tryz.prog 100 #[.agg #[.int .i64 (inc:Int),.bool s,.int .u64 x,.int .u64 y,.pointer p,.slice (some ⟨g,0,none⟩) fs.length fs.length],.int .i64 (st:Int),.int .i64 (ys:Int)] W fun e w'=>∃ v,e=.returned v∧FracAt w' v (lsR (wayN fs) fs.length inc ys st)∧But [] W w'):=fun g s x y p W h1 h2 =>
  lasting_any inc st ys fs.length g 0 fs.length U s x y p (wayN fs) (atR fs) _ W h1 h2.fracs (fun k hk=>by
   rw [List.getElem?_map,List.getElem?_range hk,hway k,hUU];rfl) hn0 hl (Nat.le_refl _) (by omega) hst hi hys (by rw [hUU];exact hway) hsum1 hsumN hU20
 have WAY:=hide (fun (g:Nat) (s:Bool) (x y:Int) (p:Option Addr) (W:World) (h:FracAt W (.agg #[.bool s,.int .u64 x,.int .u64 y,.pointer p]) (((U:Nat):Int):Rat))=>yways_any (inc:Int) s x y p (some ⟨g,0,none⟩) fs.length fs.length U ys W h (by omega) hU20)
 rw [← hphi]
 rw [← hphi] at lR lQ
 have LR:=hide lR
 have LQ:=hide lQ
 have LA:=hide lA
 have LB:=hide lB
 have HB0:=hide hB0
 change Hid (Len (((1:Int):Rat)-lsR (wayN fs) fs.length inc ys st/powR (((U:Nat):Int):Rat) ys) 10000) at LR
 change Hid (Len (lsR (wayN fs) fs.length inc ys st/powR (((U:Nat):Int):Rat) ys) 2000) at LQ
 show Calls Tryz.prog 36 #[.int .i64 (st:Int),.int .i64 (inc:Int),v,.int .i64 (ys:Int)] w fun e w'=>∃ s x y p,e=.returned (.tuple #[.agg #[.bool s,.int .u64 x,.int .u64 y,.pointer p],.nilIface])∧FracAt w' (.agg #[.bool s,.int .u64 x,.int .u64 y,.pointer p]) (((1:Int):Rat)-lsR (wayN fs) fs.length inc ys st/powR (((U:Nat):Int):Rat) ys)∧Len (((1:Int):Rat)-lsR (wayN fs) fs.length inc ys st/powR (((U:Nat):Int):Rat) ys) 10000∧But [] w w'
 clear lR lQ lA lB hB0 hphi e1 e2 hway hsum1 hsumN hp hUpos hU20
 generalize lsR (wayN fs) fs.length inc ys st=f1 at *
 generalize powR (((U:Nat):Int):Rat) ys=f2 at *
 generalize (((U:Nat):Int):Rat)=fU at *
 obtain ⟨q,cap,rfl,hcap,-⟩:=id hv
 have x2:=BoxAt.new w false 0 0 none 0 29 (zero_at _)
 have bA:But [] w (w.alloc (.cells #[.bool false,.int .u64 0,.int .u64 0,.pointer none] 29)):=(But.refl _ _).alloc _
 have X2:=hide x2
 have BA:=hide bA
 generalize fs.length=n at *
 have Q2:Hid (w.heap.size≤w.heap.size):=Nat.le_refl _
 clear x2 bA hv lf hcap hk htab hm hUU
 go_enter Tryz.func36,Tryz.ntmps36
 go_wp2_with fail
 refine (unhide F0 _).mono ?_
 rintro e w1 ⟨rfl,hb1⟩
 have B1:=hide ((unhide BA).trans' hb1)
 have X21:=hide ((unhide X2).but hb1)
 clear hb1 X2 BA F0
 go_wp2_with fail
 refine (unhide F1 _).mono ?_
 rintro e w2 ⟨rfl,hb2⟩
 have B2:=hide ((unhide B1).trans' hb2)
 have X22:=hide ((unhide X21).but hb2)
 clear hb2 X21 B1 F1
 go_wp2_with fail
 refine (unhide F2 _).mono ?_
 rintro e w3 ⟨rfl,hb3⟩
 have B3:=hide ((unhide B2).trans' hb3)
 have X23:=hide ((unhide X22).but hb3)
 clear hb3 X22 B2 F2
 go_wp2_with fail
 refine (unhide CK _ (unhide B3)).mono ?_
 rintro e w4 ⟨rfl,hb4⟩
 have B4:=hide ((unhide B3).trans' hb4)
 have X24:=hide ((unhide X23).but hb4)
 clear hb4 X23 B3 CK
 rw [show errV 0=.nilIface from rfl]
 generalize hg2:w.heap.size=g8 at *
 go_wp2_with fail
 refine (unhide YO _ (unhide B4)).mono ?_
 rintro e w5 ⟨g,s1,x1,y1,p1,rfl,hf5,hr5,hg51,hg52,hb5⟩
 have B5:=hide ((unhide B4).trans' hb5)
 have X25:=hide ((unhide X24).but hb5)
 obtain ⟨V,hV⟩:∃ V,V=w5.alloc (.cells #[.int .i64 (inc:Int),.bool s1,.int .u64 x1,.int .u64 y1,.pointer p1,.slice (some ⟨g,0,none⟩) n n] 149):=⟨_,rfl⟩
 have bV:But [] w5 V:=by rw [hV];exact (But.refl _ _).alloc _
 have YV:Hid (YBox V w5.heap.size (inc:Int) s1 x1 y1 p1 (.slice (some ⟨g,0,none⟩) n n)):=by rw [hV];exact YBox.new _ _ _ _ _ _ _ _
 have F5:=hide (hf5.but bV)
 have R5:=hide (hr5.but bV hg52)
 have gV:g<V.heap.size:=Nat.lt_of_lt_of_le hg52 bV.size
 have B6:=hide ((unhide B5).trans' bV)
 have X26:=hide ((unhide X25).but bV)
 clear hf5 hr5 hb5 B4 X24 YO B5 X25 bV hg51 hg52
 go_wp2
 rw [← hV]
 clear hV
 generalize w5.heap.size=g12 at *
 refine within_region6 6 _ _ V V.heap.size (st:Int) (ys:Int) (inc:Int) s1 x1 y1 p1 (some ⟨g,0,none⟩) n n f1 f2 (by simp) g12 rfl (by simp [Act.eval]) (by simp [Act.eval]) (by simp [Act.eval]) (unhide YV) (fun W hb=>unhide LAS g s1 x1 y1 p1 W ((unhide F5).but hb) ((unhide R5).but hb gV)) (fun W hb=>unhide WAY g s1 x1 y1 p1 W ((unhide F5).but hb)) (fun W hb v u h1 h2=>fracDiv_any _ _ _ _ W h1 h2 ((unhide LA).mono (by omega)) ((unhide LB).mono (by omega)) (unhide HB0)) ?_
 intro w6 bn v3 v6 v7 v8 v9 v12 s' x' y' p' hb6 hBn hp6 hf6
 simp only [putted,List.foldl_cons,List.foldl_nil,Act.put,List.setIfInBounds_toArray,List.set_cons_zero,List.set_cons_succ]
 have B7:=hide ((unhide B6).trans' hb6)
 have X27:=hide ((unhide X26).but hb6)
 have P7:=hide hp6
 have F7:=hide hf6
 clear hb6 hp6 hf6 F5 R5 B6 X26 YV LAS WAY hBn
 go_wp2
 obtain ⟨ws,wx,FW,CW⟩:=whole_is 1 (by omega) (by omega)
 obtain ⟨⟨t2,a2,b2,q2,c2,-⟩,z2⟩:=unhide X27
 refine within_region7 7 _ _ w6 ws wx s' x' y' p' (f1/f2) g8 bn (by simp) (by simp [Act.eval]) c2 z2 (by simp [Act.eval]) (unhide P7) CW (fun W hb=>fracSub_any _ _ _ _ W (FW W) ((unhide F7).but hb) ((len_int 1 (by decide)).mono (by omega)) ((unhide LQ).mono (by omega))) ?_
 intro w7 s7 x7 y7 p7 hb7 hf7
 simp only [putted,List.foldl_cons,List.foldl_nil,Act.put,List.setIfInBounds_toArray,List.set_cons_zero,List.set_cons_succ]
 have hP:=put4_but w7 g8 s7 x7 y7 p7
 obtain ⟨m0,m1,m2,m3⟩:=put4_p4 w7 g8 s7 x7 y7 p7 (c2.but hb7 (by simp))
 have hF:But [] w (put4 w7 g8 s7 x7 y7 p7):=((unhide B7).trans' hb7).trans hP (fun x hx=>by simp at hx;subst hx;exact .inr (by omega))
 have hff:=hf7.over (c2.but hb7 (by simp)).1 hP
 generalize put4 w7 g8 s7 x7 y7 p7=F at *
 clear hP hf7 hb7 c2 z2 X27 B7 P7 F7
 go_wp2
 exact bodyPost_ret (v:=.tuple #[.agg #[.bool s7,.int .u64 x7,.int .u64 y7,.pointer p7],.nilIface]) (by simp [results,Tryz.results36,go_sem,m0,m1,m2,m3]) rfl ⟨s7,x7,y7,p7,rfl,hff,unhide LR,hF⟩
end Go.Proofs.YtloojmaamaambaaGreatDoor
