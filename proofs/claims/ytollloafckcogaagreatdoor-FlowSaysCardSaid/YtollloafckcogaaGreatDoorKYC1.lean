/- A word's decimal digits, as the library' -/
import Derived.Lib.ItoaMem
import Derived.Laws.IdiomStrings
import Derived.Lib.AppendIntMem
import Derived.Test.YtollloafckcogaaGreatDoorKYF7
import Derived.Test.YtollloafckcogaaGreatDoorKYN12f
namespace Go.Proofs.YtollloafckcogaaGreatDoor
open Go.RowKit Go.Sort Go.Lib
set_option maxHeartbeats 4000000
set_option maxRecDepth 100000
theorem holds_zero0 (w:World) (T:TypeId) (nd:Nat) (hs:nd≤24):Holds (fun (b:UInt8)=>Value.int .u8 (b.toNat:Int)) (w.alloc (.cells zeros24 T)) w.heap.size 0 (Array.replicate nd (0:UInt8)):=fun j hj=>by
 rw [Array.size_replicate] at hj
 refine ⟨?_,by simp⟩
 rw [World.cell?_alloc_new,zeros24_at _ (by omega),getElem!_pos _ j (by rw [Array.size_replicate];exact hj)]
 simp
theorem formatUint_any (u:Nat) (hu:u<18446744073709551616) (w:World) (htab:Lib.TabIs Tryz.prog w "internal/strconv.uint64pow10" .u64 Lib.pow10Tab) (t:ByteArray) (ht:Hid (t=⟨(Lib.decDigits u).toArray⟩)) :
  Calls Tryz.prog 125 #[.int .u64 u,.int .i64 10] w fun e w'=>e=.returned (.string t)∧But [] w w':=by
 by_cases hs:u<100
 ·have H:=hide htab
  clear htab
  go_enter Tryz.func125,Tryz.ntmps125
  go_wp2_with fail
  refine (Tryz.internal_strconv_small u hs _).mono ?_
  rintro e w1 ⟨rfl,hw⟩
  obtain rfl:=hw.symm
  clear hw
  rw [← unhide ht]
  clear ht
  go_wp2
  go_ret
  exact ⟨rfl,But.refl _ _⟩
 ·have hu1:1≤u:=by omega
  have hnd20:Lib.nDigits u≤20:=by have:=Lib.numDigits_eq u hu1 hu;split at this <;> omega
  have H:=hide htab
  clear htab
  go_enter Tryz.func125,Tryz.ntmps125
  go_wp2_with fail
  refine (Tryz.internal_strconv_numDigits u hu1 hu _ (Lib.tabIs_alloc (unhide H) _)).mono ?_
  rintro e w1 ⟨rfl,hw⟩
  obtain rfl:=hw.symm
  clear hw
  have hH0:=holds_zero0 w 209 (Lib.nDigits u) (by omega)
  have hfmt:=hide (Tryz.internal_strconv_formatBase10 w.heap.size 0 24 u (Array.replicate (Lib.nDigits u) 0) (w.alloc (.cells Lib.zeros24 209)) hH0 (by rw [Array.size_replicate];exact Lib.lt_pow_nDigits u) hu (by rw [Array.size_replicate];omega))
  rw [Array.size_replicate] at hfmt
  have HH:=hide hH0
  clear hH0
  have hnl:=Lib.decDigits_length u
  have HND:=hide hnl
  clear hnl
  generalize hndd:Lib.nDigits u=nd at *
  have HE:=hide hndd
  clear hndd
  have hal:Tryz.prog.arrayLen 209 = 24:=by kernel_rfl
  have hsl:∀ W,(Instr.sliceAt 209 (.pointer (some ⟨w.heap.size,0,none⟩)) none (some (.int .i64 (nd:Int))) none).run Tryz.prog W=.ok (.slice (some ⟨w.heap.size,0,none⟩) nd 24) W:=fun W=>by
   rw [run_sliceAt_array_h W 209 ⟨w.heap.size,0,none⟩ (by kernel_rfl) .i64 (nd:Int) (by omega) (by rw [hal];omega)]
   go_simp
  go_wp2_with fail
  refine (unhide hfmt).mono ?_
  rintro e w1 ⟨rfl,k,v',dk,hw1,hF⟩
  have hF':FmtInv (Lib.nDigits u) u 0 v' dk:=by rw [unhide HE];exact hF
  have hcv:(convert 136 9 (.slice (some ⟨w.heap.size,0,none⟩) nd 24)).run Tryz.prog w1=.ok (.string t) w1:=by
   have h:=run_convert_bytes_back (P:=Tryz.prog) w1 136 9 5 ⟨w.heap.size,0,none⟩ 24 (Lib.decDigits u) Tryz.underlying136 Tryz.underlying5 Tryz.underlying9 (fun j hj=>by
    rw [Lib.row_is_numeral hF' j hj,Lib.add_plain,hw1,World.cell?_drewN]
    exact cell?_putRow (fun (b:UInt8)=>Value.int .u8 (b.toNat:Int)) _ w.heap.size 0 _ dk (unhide HH) (by rw [hF.size,Array.size_replicate]) j (by rw [hF.size];rw [unhide HND] at hj;exact hj))
   rw [unhide HND,← unhide ht] at h
   exact h
  have hB:But [] w w1:=by
   rw [hw1,alloc_eq_grow]
   obtain ⟨os',_,e⟩:=putRow_grow_new (fun (b:UInt8)=>Value.int .u8 (b.toNat:Int)) w #[.cells Lib.zeros24 209] w.heap.size 0 dk (Nat.le_refl _)
   rw [e]
   have hg:But [] w (grow w os'):=⟨rfl,rfl,rfl,by show w.heap.size≤(w.heap++os').size;rw [Array.size_append];omega,fun k hk _=>Array.getElem?_append_left hk⟩
   exact hg.drewN k
  clear hw1 hF hF' HH HND HE hfmt
  go_wp2
  go_ret
  exact ⟨rfl,hB⟩
theorem strconvFormatUint_any (u:Nat) (hu:u<18446744073709551616) (w:World) (htab:Lib.TabIs Tryz.prog w "internal/strconv.uint64pow10" .u64 Lib.pow10Tab) (t:ByteArray) (ht:Hid (t=⟨(Lib.decDigits u).toArray⟩)) :
  Calls Tryz.prog 82 #[.int .u64 u,.int .i64 10] w fun e w'=>e=.returned (.string t)∧But [] w w':=by
 have H:=hide htab
 clear htab
 go_enter Tryz.func82,Tryz.ntmps82
 go_wp2_with fail
 refine (formatUint_any u hu _ (unhide H) t ht).mono ?_
 rintro e w1 ⟨rfl,hb⟩
 go_wp2
 go_ret
 exact ⟨rfl,hb⟩
end Go.Proofs.YtollloafckcogaaGreatDoor

namespace Go.Proofs.YtollloafckcogaaGreatDoor
open Go.RowKit
theorem TabIs.but {w w':World} (h:Lib.TabIs Tryz.prog w "internal/strconv.uint64pow10" .u64 Lib.pow10Tab) (hb:But [] w w'):Lib.TabIs Tryz.prog w' "internal/strconv.uint64pow10" .u64 Lib.pow10Tab :=
 Go.Lib.tabBelow_of_tabIs h w' hb.below
end Go.Proofs.YtollloafckcogaaGreatDoor

namespace Go.Proofs.YtollloafckcogaaGreatDoor
open Go.RowKit
set_option maxHeartbeats 8000000
set_option maxRecDepth 100000
structure Powers (w:World) (vp:Value) (us:List Value):Prop where
 form:∃ a c,vp=.slice a us.length c∧us.length≤c∧∀ j u,us[j]? = some u→∃ g o,a=some ⟨g,o,none⟩∧g<w.heap.size∧w.cell? ⟨g,o+j,none⟩=some u
 all:∀ j u,us[j]? = some u→Sl .u64 w u (wd 18446744073709551616 (tenP j))
theorem powers_of {w:World} {base:Nat} {vp:Value} {us:List Value} (h:w.ownsRow base 82 1 vp us.length us) (ha:∀ j u,us[j]? = some u→Sl .u64 w u (wd 18446744073709551616 (tenP j))):Powers w vp us:=by
 refine ⟨?_,ha⟩
 rcases h.2 with ⟨rfl,h0⟩ | ⟨g,cap,cur,rfl,h2,h3,h4,-⟩
 ·exact ⟨none,0,by rw [h0],by omega,fun j u hj=>by have:=(List.getElem?_eq_some_iff.1 hj).1;omega⟩
 ·refine ⟨_,cap,rfl,h4,fun j u hj=>⟨g,0,rfl,(h.lt g rfl).2,?_⟩⟩
  have:=h.cells (g:=g) rfl j u hj
  rw [addr_add] at this
  exact this
def LongOK (L:Nat):Prop:=∀ (base:Nat) (w0:World) (vp:Value) (us:List Value) (vo:Value) (ods:List UInt8) (v:Value) (X Wd:Nat) (w:World),base=w0.heap.size→Powers w0 vp us→us.length=L→Below base w0 w →
 Sl .u64 w v (wd 18446744073709551616 X)→X<tenP L→(Wd=0∧0<X∨Wd=608*2^L)→(wd 18446744073709551616 X).length≤1000000→ods.length+(rdig X).length+2*(608*2^L)<1073741000→w.ownsRow base 5 1 vo ods.length (ods.map u8v)→(vo=.slice none 0 0∨0<ods.length)→(∀ j u,us[j]? = some u→Sl .u64 w u (wd 18446744073709551616 (tenP j))) →
 Calls Tryz.prog 83 #[vo,v,.int .i64 (Wd:Int),vp] w fun e w'=>∃ v',e=.returned v'∧w'.ownsRow base 5 1 v' (ods++(wdig Wd X).reverse).length ((ods++(wdig Wd X).reverse).map u8v)∧Below base w w'∧Keep64 w w'
theorem appendLong_zero:LongOK 0:=by
 intro base w0 vp us vo ods v X Wd w hbase hP hL hB hv hX hW hl hd ho hn _
 have hbs:base≤w.heap.size:=by rw [hbase];exact hB.size
 have h608:608*2^0=608:=by decide
 rw [h608] at hW hd
 have AS:=hide (appendShort_any base vo ods v X Wd w hv (by rcases hW with h | h <;> omega) (by omega) (by rcases hW with h | h <;> omega) ho hn hbs)
 obtain ⟨a,c,e,-,-⟩:=hP.form
 rw [hL] at e
 subst e
 obtain ⟨xa,xc,rfl,-,-⟩:=hv
 obtain ⟨oa,oc,rfl⟩:=owns_shape ho
 clear hX hW hP hL ho hn hB
 generalize (wd 18446744073709551616 X).length=n at *
 generalize ods.length=no at *
 go_enter Tryz.func83,Tryz.ntmps83
 go_wp2_with fail
 refine (unhide AS).mono ?_
 rintro e w1 ⟨v1,rfl,ho,hb,hk⟩
 have HO:=hide (And.intro ho (And.intro hb hk))
 clear ho hb hk
 go_wp2
 go_ret
 exact ⟨v1,rfl,(unhide HO).1,(unhide HO).2.1,(unhide HO).2.2⟩
theorem tenP_len (L:Nat):(wd 18446744073709551616 (tenP L)).length≤38*2^L:=by
 refine wd_length_le (by omega) _ _ ?_
 have e:(18446744073709551616:Nat)^(38*2^L)=16^(608*2^L):=by
  rw [show (18446744073709551616:Nat)=16^16 from by decide,← Nat.pow_mul,← Nat.mul_assoc]
 rw [e]
 exact Nat.pow_lt_pow_left (by omega) (by have:0<2^L:=Nat.pow_pos (by omega);omega)
theorem below_cell {n:Nat} {w w':World} (h:Below n w w') {g i:Nat} {u:Value} (hg:g<n) (hc:w.cell? ⟨g,i,none⟩=some u):w'.cell? ⟨g,i,none⟩=some u:=(World.cell?_of_block (w:=w) (h.block g hg)).trans hc
theorem Powers.take {w:World} {g o c L:Nat} {us:List Value} (h:Powers w (.slice (some ⟨g,o,none⟩) us.length c) us) (hL:L≤us.length):Powers w (.slice (some ⟨g,o,none⟩) L c) (us.take L):=by
 have hl:(us.take L).length=L:=by rw [List.length_take];omega
 have hsub:∀ j u,(us.take L)[j]? = some u→us[j]? = some u:=fun j u hj=>by
  have hlt:j<L:=by have:=(List.getElem?_eq_some_iff.1 hj).1;omega
  rw [List.getElem?_take_of_lt hlt] at hj
  exact hj
 obtain ⟨a,c',e,h1,h2⟩:=h.form
 simp only [Value.slice.injEq] at e
 obtain ⟨rfl,-,rfl⟩:=e
 exact ⟨⟨_,c,by rw [hl],by omega,fun j u hj=>h2 j u (hsub j u hj)⟩,fun j u hj=>h.all j u (hsub j u hj)⟩
theorem wdig_halves (L X Wd:Nat) (hX:X<tenP (L+1)) (hW:(Wd=0∧0<X)∨Wd=608*2^(L+1)) (hne:¬ (X/tenP L=0∧Wd=0)) :
  (wdig Wd X).reverse=(wdig (Wd-608*2^L) (X/tenP L)).reverse++(wdig (608*2^L) (X%tenP L)).reverse∧((Wd-608*2^L=0∧0<X/tenP L)∨Wd-608*2^L=608*2^L):=by
 have hp:=tenP_pos L
 have e2:608*2^(L+1)=608*2^L+608*2^L:=by rw [Nat.pow_succ];omega
 rcases hW with ⟨rfl,h0⟩ | h
 ·have h1:0<X/tenP L:=by
   rcases Nat.eq_zero_or_pos (X/tenP L) with h | h
   ·exact absurd ⟨h,rfl⟩ hne
   ·exact h
  have h2:tenP L≤X:=by
   rcases Nat.lt_or_ge X (tenP L) with h | h
   ·rw [Nat.div_eq_of_lt h] at h1;omega
   ·exact h
  rw [Nat.zero_sub]
  refine ⟨?_,.inl ⟨rfl,h1⟩⟩
  rw [wdig_long (608*2^L) X h2,List.reverse_append];rfl
 ·rw [h,e2,Nat.add_sub_cancel]
  refine ⟨?_,.inr rfl⟩
  rw [wdig_wide (608*2^L) X (by rw [← e2];exact hX),List.reverse_append];rfl
theorem appendLong_succ (L:Nat) (IH:LongOK L) (hL20:L<20):LongOK (L+1):=by
 intro base w0 vp us vo ods v X Wd w hbase hP hL hB hv hX hW hl hd ho hn hall
 have hp:=tenP_pos L
 have e2:608*2^(L+1)=608*2^L+608*2^L:=by rw [Nat.pow_succ];omega
 have hh:X/tenP L<tenP L:=by rw [Nat.div_lt_iff_lt_mul hp,← tenP_succ];exact hX
 have hlo:X%tenP L<tenP L:=Nat.mod_lt _ hp
 obtain ⟨u,hu⟩:∃ u,us[L]? = some u:=⟨us[L],List.getElem?_eq_getElem (by omega)⟩
 obtain ⟨a,c,rfl,hc1,hcell⟩:=hP.form
 obtain ⟨g,o,rfl,hg,hcu⟩:=hcell L u hu
 rw [hbase.symm] at hg
 have cu:=below_cell hB hg hcu
 have hPT:Powers w0 (.slice (some ⟨g,o,none⟩) L c) (us.take L):=hP.take (by omega)
 have hTL:(us.take L).length=L:=by rw [List.length_take];omega
 have hsub:∀ j u,(us.take L)[j]? = some u→us[j]? = some u:=fun j u hj=>by
  have hlt:j<L:=by have:=(List.getElem?_eq_some_iff.1 hj).1;omega
  rw [List.getElem?_take_of_lt hlt] at hj
  exact hj
 obtain ⟨D,hD⟩:∃ D,D=608*2^L:=⟨_,rfl⟩
 have rh:(rdig (X/tenP L)).length≤D:=rdig_length _ _ (by rw [hD];exact hh)
 have rl:(rdig (X%tenP L)).length≤D:=rdig_length _ _ (by rw [hD];exact hlo)
 have lh:(wd 18446744073709551616 (X/tenP L)).length≤1000000:=Nat.le_trans (wd_len_mono (Nat.div_le_self _ _)) hl
 have ll:(wd 18446744073709551616 (X%tenP L)).length≤1000000:=Nat.le_trans (wd_len_mono (Nat.mod_le _ _)) hl
 have lu:=hall L u hu
 have QR:=hide (natQuoRem_any v u X (tenP L) w hv lu hp (by omega) (by
  have:=tenP_len L
  have h19:2^L≤2^19:=Nat.pow_le_pow_right (by omega) (by omega)
  omega) (Short.of _ _ hl))
 have hDB:D<1073741000:=by rw [hD];omega
 have hbs:base≤w.heap.size:=by rw [hbase];exact hB.size
 have HDW:Hid (wrap64 (608*2^L)=(D:Int)):=by
  have e:(608:Int)*2^L=(D:Int):=by rw [hD];simp
  show _=_
  rw [e];unfold wrap64;omega
 have hLc:L<c:=by omega
 have i1:(0:Int)≤(L:Int):=by omega
 have i2:(L:Int)≤(c:Int):=by omega
 have i3:(L:Int)≤(L:Int)+1:=by omega
 have HALL:=hide hall
 have HO:=hide (And.intro ho hn)
 have HB:=hide hB
 have IHA:=hide (fun ods' vo' v' X' W' W (h1:Below base w0 W) (h2:Sl .u64 W v' (wd 18446744073709551616 X')) (h3:X' < tenP L) (h4:W'=0∧0<X'∨W'=608*2^L) (h5:(wd 18446744073709551616 X').length≤1000000) h6 h7 h8 (h9:∀ j u,us[j]? = some u→Sl .u64 W u (wd 18446744073709551616 (tenP j)))=>IH base w0 _ _ vo' ods' v' X' W' W hbase hPT hTL h1 h2 h3 h4 h5 h6 h7 h8 (fun j u hj=>h9 j u (hsub j u hj)))
 have HX:=hide hX
 have HW:=hide hW
 have HD2:=hide (And.intro hD (And.intro rh (And.intro rl (And.intro lh (And.intro ll (And.intro hh hlo))))))
 clear hDB
 have HDD:Hid (ods.length+4*D<1073741000):=by show _<_;rw [hD];omega
 obtain ⟨xa,xc,rfl,-,-⟩:=hv
 obtain ⟨oa,oc,rfl⟩:=owns_shape ho
 rw [hL]
 clear hX hW hP hL ho hn hB IH hPT hTL hsub hall hcell hcu hu hp hc1 hbase hd rh rl lh ll hh hlo e2 hD
 generalize (wd 18446744073709551616 X).length=n at *
 generalize hno:ods.length=no at *
 go_enter Tryz.func83,Tryz.ntmps83
 go_wp2_with fail
 refine (unhide QR).mono ?_
 rw [unhide HDW]
 rintro e1 w1 ⟨v1,v2,rfl,hv1,hv2,hb1,-⟩
 have HV1:=hide hv1
 have HV2:=hide hv2
 have B1:=hide hb1
 have HB1:=hide (below_trans (unhide HB) (hb1.below_of hbs))
 obtain ⟨ha,hc,rfl,-,-⟩:=hv1
 clear hv2 hb1 QR
 by_cases h0:X/tenP L=0∧Wd=0
 ·obtain ⟨hq0,hw0⟩:=h0
  have hXL:X%tenP L=X:=by
   have:=Nat.div_add_mod X (tenP L)
   rw [hq0,Nat.mul_zero,Nat.zero_add] at this
   exact this
  have hX0:0<X:=by
   have hDp:0<608*2^(L+1):=Nat.mul_pos (by omega) (Nat.pow_pos (by omega))
   rcases unhide HW with h | h
   ·exact h.2
   ·omega
  have HXL:=hide hXL
  have A:=hide (unhide IHA ods (.slice oa no oc) v2 (X%tenP L) 0 w1 (unhide HB1) (unhide HV2) (unhide HD2).2.2.2.2.2.2 (.inl ⟨rfl,by rw [hXL];exact hX0⟩) (unhide HD2).2.2.2.2.1 (by have h1:=(unhide HD2).2.2.1;have h2:=(unhide HD2).1;have h3:=unhide HDD;omega) (by rw [hno];exact owns_but (unhide HO).1 (unhide B1)) (by rw [hno];exact (unhide HO).2) (fun j u hj=>(unhide HALL j u hj).but_nil (unhide B1)))
  rw [hq0,wd_zero,List.length_nil]
  subst hw0
  clear hq0 hXL hX0 IHA HV1 HD2 HX HW HALL HO
  go_wp2_with fail
  refine (unhide A).mono ?_
  rintro e2 w2 ⟨v3,rfl,ho2,hb2,hk2⟩
  have FIN:=hide (And.intro ho2 (And.intro (below_trans ((unhide B1).below_of hbs) hb2) ((Keep64.of_but (unhide B1)).trans hk2)))
  rw [unhide HXL] at FIN
  clear ho2 hb2 hk2 A
  go_wp2
  go_ret
  exact ⟨v3,rfl,(unhide FIN).1,(unhide FIN).2.1,(unhide FIN).2.2⟩
 ·obtain ⟨f1,f2⟩:=wdig_halves L X Wd (unhide HX) (unhide HW) h0
  rw [← (unhide HD2).1] at f1 f2
  obtain ⟨W',hW'⟩:∃ W',W'=Wd-D:=⟨_,rfl⟩
  rw [← hW'] at f1 f2
  have hmax:max ((Wd:Int)-(D:Int)) 0=(W':Int):=by omega
  have hWl:W'≤D:=by omega
  have hWdl:Wd≤2*D:=by
   have e2:608*2^(L+1)=608*2^L+608*2^L:=by rw [Nat.pow_succ];omega
   have:=(unhide HD2).1
   rcases unhide HW with h | h <;> omega
  have A:=hide (unhide IHA ods (.slice oa no oc) (.slice ha (wd 18446744073709551616 (X/tenP L)).length hc) (X/tenP L) W' w1 (unhide HB1) (unhide HV1) (unhide HD2).2.2.2.2.2.1 (by rw [← (unhide HD2).1];exact f2) (unhide HD2).2.2.2.1 (by have h1:=(unhide HD2).2.1;have h2:=(unhide HD2).1;have h3:=unhide HDD;omega) (by rw [hno];exact owns_but (unhide HO).1 (unhide B1)) (by rw [hno];exact (unhide HO).2) (fun j u hj=>(unhide HALL j u hj).but_nil (unhide B1)))
  have F1:=hide f1
  have WL:Hid (0<(wdig W' (X/tenP L)).length∧(wdig W' (X/tenP L)).length≤D):=by
   refine ⟨wdig_pos _ _ (by have hDp:0<608*2^L:=Nat.mul_pos (by omega) (Nat.pow_pos (by omega));have:=(unhide HD2).1;rcases f2 with h | h <;> omega),?_⟩
   rw [wdig_length]
   have:=(unhide HD2).2.1
   omega
  have hh0:((((wd 18446744073709551616 (X/tenP L)).length:Int)==0)=true→((Wd:Int)==0)=false):=fun h=>by
   have h1:(wd 18446744073709551616 (X/tenP L)).length=0:=by have:=beq_iff_eq.1 h;omega
   rw [wd_len_zero (by omega)] at h1
   rw [beq_eq_false_iff_ne]
   intro h2
   exact h0 ⟨h1,by omega⟩
  clear f1 f2 h0 hW'
  generalize (wd 18446744073709551616 (X/tenP L)).length=nh at *
  have hsub64:wrap64 ((Wd:Int)-(D:Int))=(Wd:Int)-(D:Int):=by have:=unhide HDD;unfold wrap64;omega
  by_cases hn0:nh=0
  ·have hne:((Wd:Int)==0)=false:=hh0 (by simp [hn0])
   subst hn0
   clear hh0
   go_wp2_with fail
   refine (unhide A).mono ?_
   rintro e2 w2 ⟨v3,rfl,ho2,hb2,hk2⟩
   have HB2:=hide (below_trans (unhide HB1) hb2)
   have HV22:=hide (hk2 _ _ (unhide HV2))
   obtain ⟨oa2,oc2,rfl⟩:=owns_shape ho2
   have hol:(ods++(wdig W' (X/tenP L)).reverse).length=no+(wdig W' (X/tenP L)).length:=by rw [List.length_append,List.length_reverse,hno]
   have A2:=hide (unhide IHA (ods++(wdig W' (X/tenP L)).reverse) (.slice oa2 (ods++(wdig W' (X/tenP L)).reverse).length oc2) v2 (X%tenP L) D w2 (unhide HB2) (unhide HV22) (unhide HD2).2.2.2.2.2.2 (.inr (unhide HD2).1) (unhide HD2).2.2.2.2.1 (by have h1:=(unhide HD2).2.2.1;have h2:=(unhide HD2).1;have h3:=unhide HDD;have h4:=(unhide WL).2;omega) ho2 (.inr (by have h4:=(unhide WL).1;omega)) (fun j u hj=>hk2 _ _ ((unhide HALL j u hj).but_nil (unhide B1))))
   have K2:=hide (And.intro hb2 hk2)
   clear ho2 hb2 hk2 A hol IHA HALL HV22 HB2
   generalize (ods++(wdig W' (X/tenP L)).reverse).length=no2 at *
   go_wp2_with fail
   refine (unhide A2).mono ?_
   rintro e3 w3 ⟨v4,rfl,ho3,hb3,hk3⟩
   have FIN:=hide (And.intro ho3 (And.intro (below_trans ((unhide B1).below_of hbs) (below_trans (unhide K2).1 hb3)) (((Keep64.of_but (unhide B1)).trans (unhide K2).2).trans hk3)))
   rw [List.append_assoc,← unhide F1] at FIN
   clear ho3 hb3 hk3 A2
   go_wp2
   go_ret
   exact ⟨v4,rfl,(unhide FIN).1,(unhide FIN).2.1,(unhide FIN).2.2⟩
  ·have hne:((nh:Int)==0)=false:=beq_eq_false_iff_ne.2 (by omega)
   clear hh0
   go_wp2_with fail
   refine (unhide A).mono ?_
   rintro e2 w2 ⟨v3,rfl,ho2,hb2,hk2⟩
   have HB2:=hide (below_trans (unhide HB1) hb2)
   have HV22:=hide (hk2 _ _ (unhide HV2))
   obtain ⟨oa2,oc2,rfl⟩:=owns_shape ho2
   have hol:(ods++(wdig W' (X/tenP L)).reverse).length=no+(wdig W' (X/tenP L)).length:=by rw [List.length_append,List.length_reverse,hno]
   have A2:=hide (unhide IHA (ods++(wdig W' (X/tenP L)).reverse) (.slice oa2 (ods++(wdig W' (X/tenP L)).reverse).length oc2) v2 (X%tenP L) D w2 (unhide HB2) (unhide HV22) (unhide HD2).2.2.2.2.2.2 (.inr (unhide HD2).1) (unhide HD2).2.2.2.2.1 (by have h1:=(unhide HD2).2.2.1;have h2:=(unhide HD2).1;have h3:=unhide HDD;have h4:=(unhide WL).2;omega) ho2 (.inr (by have h4:=(unhide WL).1;omega)) (fun j u hj=>hk2 _ _ ((unhide HALL j u hj).but_nil (unhide B1))))
   have K2:=hide (And.intro hb2 hk2)
   clear ho2 hb2 hk2 A hol IHA HALL HV22 HB2
   generalize (ods++(wdig W' (X/tenP L)).reverse).length=no2 at *
   go_wp2_with fail
   refine (unhide A2).mono ?_
   rintro e3 w3 ⟨v4,rfl,ho3,hb3,hk3⟩
   have FIN:=hide (And.intro ho3 (And.intro (below_trans ((unhide B1).below_of hbs) (below_trans (unhide K2).1 hb3)) (((Keep64.of_but (unhide B1)).trans (unhide K2).2).trans hk3)))
   rw [List.append_assoc,← unhide F1] at FIN
   clear ho3 hb3 hk3 A2
   go_wp2
   go_ret
   exact ⟨v4,rfl,(unhide FIN).1,(unhide FIN).2.1,(unhide FIN).2.2⟩
theorem appendLong_all (L:Nat) (h:L≤20):LongOK L:=by
 induction L with
 | zero=>exact appendLong_zero
 | succ L ih=>exact appendLong_succ L (ih (by omega)) (by omega)
theorem dig_len (X n:Nat) (h:(wd 18446744073709551616 X).length≤n):(rdig X).length≤20*n:=by
 refine rdig_length X _ (Nat.lt_of_lt_of_le (lt_of_wd_length (B:=18446744073709551616) (by omega) X n h) ?_)
 rw [Nat.pow_mul]
 exact Nat.pow_le_pow_left (by decide) _
theorem natText_all (v:Value) (X:Nat) (w:World) (hv:Sl .u64 w v (wd 18446744073709551616 X)) (hl:(wd 18446744073709551616 X).length≤1000000) (htab:Lib.TabIs Tryz.prog w "internal/strconv.uint64pow10" .u64 Lib.pow10Tab) (t:ByteArray) (ht:Hid (t=⟨(Lib.decDigits X).toArray⟩)) :
  Calls Tryz.prog 37 #[v] w fun e w'=>e=.returned (.string t)∧But [] w w':=by
 by_cases hu:X < 18446744073709551616
 ·have H:=hide htab
  have HW:=hide (natWord_any v X hu w hv)
  obtain ⟨xa,xc,rfl,-,-⟩:=hv
  clear htab
  generalize (wd 18446744073709551616 X).length=n at *
  go_enter Tryz.func37,Tryz.ntmps37
  go_wp2_with fail
  refine (unhide HW).mono ?_
  rintro e w1 ⟨rfl,hw⟩
  obtain rfl:=hw.symm
  clear hw
  go_wp2_with fail
  refine (strconvFormatUint_any X hu _ (unhide H) t ht).mono ?_
  rintro e w1 ⟨rfl,hb⟩
  go_wp2
  go_ret
  exact ⟨rfl,hb⟩
 ·have hp:0<X:=by omega
  have HW:=hide (natWord_long v X (by omega) w hv (by omega))
  have PF:=hide (powersFor_any v X w hv hl)
  have HV:=hide hv
  have hdl:=dig_len X _ (Nat.le_refl _)
  have AL:Hid (∀ vo us W,W.ownsRow w.heap.size 82 1 vo us.length us→(∀ j u,us[j]? = some u→Sl .u64 W u (wd 18446744073709551616 (tenP j)))→But [] w W→(∀ j,j<us.length→tenP j≤X)→X<tenP us.length →
   Calls Tryz.prog 83 #[.slice none 0 0,v,.int .i64 0,vo] W fun e w'=>∃ v',e=.returned v'∧w'.ownsRow W.heap.size 5 1 v' (rdig X).reverse.length ((rdig X).reverse.map u8v)∧But [] W w'):=fun vo us W h1 h2 h3 h4 h5=>by
   have hL:1824*2^us.length<128*1000000+3648:=by
    rcases Nat.eq_zero_or_pos us.length with h0 | h0
    ·rw [h0];omega
    ·obtain ⟨j,hj⟩:∃ j,us.length=j+1:=⟨us.length-1,by omega⟩
     have:=tenP_below X j 1000000 hl (h4 j (by omega))
     rw [hj,Nat.pow_succ]
     omega
   have hL20:us.length≤20:=by
    rcases Nat.lt_or_ge 20 us.length with h | h
    ·have:2^21≤2^us.length:=Nat.pow_le_pow_right (by omega) h
     omega
    ·exact h
   have:=appendLong_all us.length hL20 W.heap.size W vo us (.slice none 0 0) [] v X 0 W rfl (powers_of h1 h2) rfl (But.refl [] W).below (hv.but_nil h3) h5 (.inl ⟨rfl,hp⟩) hl (by simp only [List.length_nil];omega) (World.ownsRow_nil _ _ _ _) (.inl rfl) h2
   rw [wdig_zero] at this
   refine this.mono fun e w' ⟨v',e1,e2,e3,_⟩=>⟨v',e1,by simpa using e2,But.of_below e3⟩
  have hrl:0<(rdig X).reverse.length:=by rw [List.length_reverse,rdig_pos hp];simp
  have HRR:=hide (rdig_rev X hp)
  have hrb:(rdig X).reverse.length≤20000000:=by rw [List.length_reverse];omega
  obtain ⟨xa,xc,rfl,-,-⟩:=hv
  clear htab hu hl hdl
  generalize (wd 18446744073709551616 X).length=n at *
  go_enter Tryz.func37,Tryz.ntmps37
  go_wp2_with fail
  refine (unhide HW).mono ?_
  rintro e w1 ⟨rfl,hw⟩
  obtain rfl:=hw.symm
  clear hw
  go_wp2_with fail
  refine (unhide PF).mono ?_
  rintro e w1 ⟨vo,us,rfl,h1,h2,h3,h4,h5⟩
  have B1:=hide h3
  have A1:=hide (unhide AL vo us w1 h1 h2 h3 h4 h5)
  clear h1 h2 h3 h4 h5 AL PF
  go_wp2_with fail
  refine (unhide A1).mono ?_
  rintro e w2 ⟨v2,rfl,ho2,hb2⟩
  have hB2:But [] w w2:=(unhide B1).trans' hb2
  obtain ⟨g,cg,rfl,hg,hcg,hrow⟩:=owns_row ho2 hrl
  have hcv:=run_convert_bytes_back (P:=Tryz.prog) w2 136 9 5 ⟨g,0,none⟩ cg (rdig X).reverse Tryz.underlying136 Tryz.underlying5 Tryz.underlying9 (fun j hj=>row_news hrow j _ (by rw [List.getElem?_map,List.getElem?_eq_getElem hj];rfl))
  rw [unhide HRR,← unhide ht] at hcv
  rw [unhide HRR]
  have HB2:=hide hB2
  clear ho2 hb2 hrow hB2 hrl
  generalize (Lib.decDigits X).length=m at *
  go_wp2
  go_ret
  exact ⟨rfl,unhide HB2⟩
end Go.Proofs.YtollloafckcogaaGreatDoor

namespace Go.Proofs.YtollloafckcogaaGreatDoor
open Go.RowKit
set_option maxHeartbeats 4000000
set_option maxRecDepth 100000
def fracTxt (s:Bool) (p q:Nat):ByteArray:=(if s then ⟨#[45]⟩++⟨(Lib.decDigits p).toArray⟩ else ⟨(Lib.decDigits p).toArray⟩)++(if q=1 then ⟨#[]⟩ else ⟨#[47]⟩++⟨(Lib.decDigits q).toArray⟩)
theorem dec_short (u:Nat) (h:(wd 18446744073709551616 u).length≤1000000):(Lib.decDigits u).length≤20000000:=by
 rcases Nat.eq_zero_or_pos u with rfl | h0
 ·rw [Lib.decDigits_length,Lib.nDigits_small (by omega)];omega
 ·rw [← rdig_rev u h0,List.length_reverse];exact dig_len u 1000000 h
theorem ba_nil (t:ByteArray):t++⟨#[]⟩=t:=by
 cases t;simp [ByteArray.ext_iff]
theorem fracText_len (v:Value) (f:Rat) (w:World) (hf:FracAt w v f) (hL:Len f 1000000) (htab:Lib.TabIs Tryz.prog w "internal/strconv.uint64pow10" .u64 Lib.pow10Tab) (t:ByteArray) (ht:Hid (t=fracTxt (decide (f.num<0)) f.num.natAbs f.den)) :
  Calls Tryz.prog 9 #[v] w fun e w'=>e=.returned (.string t)∧But [] w w':=by
 have hq0:=den_pos f
 obtain ⟨hN,hD⟩:=hL
 obtain ⟨tp,htp⟩:∃ tp:ByteArray,tp=⟨(Lib.decDigits f.num.natAbs).toArray⟩:=⟨_,rfl⟩
 obtain ⟨tq,htq⟩:∃ tq:ByteArray,tq=⟨(Lib.decDigits f.den).toArray⟩:=⟨_,rfl⟩
 have sp:tp.size≤20000000:=by rw [htp];exact dec_short _ hN
 have sq:tq.size≤20000000:=by rw [htq];exact dec_short _ hD
 have HNU:Hid (∀ W,But [] w W→Calls Tryz.prog 36 #[v] W fun e w'=>∃ v1 v2,e=.returned (.tuple #[v1,v2])∧Sl .u64 w' v1 (wd 18446744073709551616 f.num.natAbs)∧Sl .u64 w' v2 (wd 18446744073709551616 f.den)∧But [] W w'):=fun W hb=>numbers_any v f W (hf.but hb)
 have T1:Hid (∀ W v1,But [] w W→Sl .u64 W v1 (wd 18446744073709551616 f.num.natAbs)→Calls Tryz.prog 37 #[v1] W fun e w'=>e=.returned (.string tp)∧But [] W w'):=fun W v1 hb h=>natText_all v1 _ W h hN (TabIs.but htab hb) tp htp
 have T2:Hid (∀ W v1,But [] w W→Sl .u64 W v1 (wd 18446744073709551616 f.den)→Calls Tryz.prog 37 #[v1] W fun e w'=>e=.returned (.string tq)∧But [] W w'):=fun W v1 hb h=>natText_all v1 _ W h hD (TabIs.but htab hb) tq htq
 have HT:Hid (t=(if decide (f.num<0) then ⟨#[45]⟩++tp else tp)++(if f.den=1 then ⟨#[]⟩ else ⟨#[47]⟩++tq)):=by show _=_;rw [unhide ht,fracTxt,htp,htq]
 have ONE:Hid (∀ W v1 (r:Bool),Hid (r=decide (f.den=1))→Sl .u64 W v1 (wd 18446744073709551616 f.den)→Calls Tryz.prog 38 #[v1] W fun e w'=>e=.returned (.bool r)∧w'=W):=fun W v1 r hr h=>natOne_any v1 _ W h (by omega) r hr
 obtain ⟨x,y,p,rfl,-⟩:=hf.agg
 have hbw:But [] w (w.alloc (.cells #[.bool (decide (f.num<0)),.int .u64 x,.int .u64 y,.pointer p] 27)):=(But.refl _ _).alloc _
 clear htp htq ht htab hN hD hf
 generalize hs:decide (f.num<0)=s at *
 clear hs
 go_enter Tryz.func9,Tryz.ntmps9
 go_wp2_with fail
 refine (unhide HNU _ hbw).mono ?_
 rintro e w1 ⟨v1,v2,rfl,hv1,hv2,hb1⟩
 have B1:=hide (hbw.trans' hb1)
 have HV1:=hide hv1
 have HV2:=hide hv2
 have c0:=hb1.cell_some (show (w.alloc (.cells #[.bool s,.int .u64 x,.int .u64 y,.pointer p] 27)).cell? ⟨w.heap.size,0,none⟩=some (.bool s) by simp) (by simp)
 clear hv1 hv2 hb1
 go_wp2_with fail
 refine (unhide T1 _ v1 (unhide B1) (unhide HV1)).mono ?_
 rintro e w2 ⟨rfl,hb2⟩
 have d0:=hb2.cell_some c0 (by simp)
 have B2:Hid (But [] w w2):=(unhide B1).trans' hb2
 have HV3:=hide ((unhide HV2).but_nil hb2)
 clear hb2 c0 HV2 hbw
 cases s
 all_goals
  go_wp2_with fail
  by_cases hq1:f.den=1
  ·refine (unhide ONE _ v2 true (by show true=_;simp [hq1]) (unhide HV3)).mono ?_
   rintro e w3 ⟨rfl,hw⟩
   obtain rfl:=hw.symm
   clear hw
   go_wp2
   go_ret
   exact ⟨by rw [unhide HT,if_pos hq1,ba_nil];rfl,unhide B2⟩
  ·refine (unhide ONE _ v2 false (by show false=_;simp [hq1]) (unhide HV3)).mono ?_
   rintro e w3 ⟨rfl,hw⟩
   obtain rfl:=hw.symm
   clear hw
   go_wp2_with fail
   refine (unhide T2 _ v2 (unhide B2) (unhide HV3)).mono ?_
   rintro e w3 ⟨rfl,hb3⟩
   go_wp2
   go_ret
   exact ⟨by rw [unhide HT,if_neg hq1];rfl,(unhide B2).trans' hb3⟩
end Go.Proofs.YtollloafckcogaaGreatDoor

namespace Go.Proofs.YtollloafckcogaaGreatDoor
open Go.RowKit
set_option maxHeartbeats 8000000
set_option maxRecDepth 100000
theorem rat_ex (s:Bool) (p q:Nat) (hq:0<q) (hc:Nat.Coprime p q):∃ f:Rat,f.num=sgn s p∧f.den=q :=
 ⟨⟨sgn s p,q,by omega,by rw [sgn_abs];exact hc⟩,rfl,rfl⟩
theorem gcd_cop (x y:Nat) (hy:0<y):Nat.Coprime (x/Nat.gcd x y) (y/Nat.gcd x y):=Nat.coprime_div_gcd_div_gcd (Nat.gcd_pos_of_pos_right _ hy)
theorem len_of {f:Rat} {m n:Nat} (h1:f.num.natAbs < 18446744073709551616^m) (h2:f.den < 18446744073709551616^n) (k:Nat) (hm:m≤k) (hn:n≤k):Len f k :=
 ⟨Nat.le_trans (wd_length_le (by omega) _ _ h1) hm,Nat.le_trans (wd_length_le (by omega) _ _ h2) hn⟩
theorem Len.mono {f:Rat} {m n:Nat} (h:Len f m) (hn:m≤n):Len f n:=⟨Nat.le_trans h.1 hn,Nat.le_trans h.2 hn⟩
theorem Len.lt {f:Rat} {m:Nat} (h:Len f m):f.num.natAbs < 18446744073709551616^m∧f.den < 18446744073709551616^m:=⟨lt_of_wd_length (by omega) _ _ h.1,lt_of_wd_length (by omega) _ _ h.2⟩
theorem len_mul {f g:Rat} {m n:Nat} (h1:Len f m) (h2:Len g n) (k:Nat) (hk:m+n≤k):Len (f*g) k:=by
 obtain ⟨a1,a2⟩:=h1.lt
 obtain ⟨c1,c2⟩:=h2.lt
 obtain ⟨e1,e2⟩:=mul_low f g _ _ rfl rfl
 refine len_of (m:=m+n) (n:=m+n) ?_ ?_ k hk hk
 ·rw [e1,sgn_abs,Nat.pow_add]
  exact Nat.mul_lt_mul'' (Nat.lt_of_le_of_lt (Nat.div_le_self _ _) a1) (Nat.lt_of_le_of_lt (Nat.div_le_self _ _) c1)
 ·rw [e2,Nat.pow_add]
  exact Nat.mul_lt_mul'' (Nat.lt_of_le_of_lt (Nat.div_le_self _ _) a2) (Nat.lt_of_le_of_lt (Nat.div_le_self _ _) c2)
theorem len_add {f g:Rat} {m n:Nat} (h1:Len f m) (h2:Len g n) (k:Nat) (hk:m+n+1≤k):Len (f+g) k:=by
 obtain ⟨a1,a2⟩:=h1.lt
 obtain ⟨c1,c2⟩:=h2.lt
 obtain ⟨M,s,hM⟩:∃ (M:Nat) (s:Bool),f.num*(g.den/Nat.gcd f.den g.den:Nat)+g.num*(f.den/Nat.gcd f.den g.den:Nat)=sgn s M:=by
  generalize f.num*(g.den/Nat.gcd f.den g.den:Nat)+g.num*(f.den/Nat.gcd f.den g.den:Nat)=z
  by_cases hz:z<0
  ·exact ⟨z.natAbs,true,by simp [sgn];omega⟩
  ·exact ⟨z.natAbs,false,by simp [sgn];omega⟩
 obtain ⟨e1,e2⟩:=add_low f g s M _ _ rfl rfl hM
 have hMl:M < 18446744073709551616^(m+n+1):=by
  have h3:M≤f.num.natAbs*(g.den/Nat.gcd f.den g.den)+g.num.natAbs*(f.den/Nat.gcd f.den g.den):=by
   rw [← sgn_abs s M,← hM]
   refine Nat.le_trans (Int.natAbs_add_le _ _) ?_
   rw [Int.natAbs_mul,Int.natAbs_mul,Int.natAbs_natCast,Int.natAbs_natCast]
   exact Nat.le_refl _
  have h4:f.num.natAbs*(g.den/Nat.gcd f.den g.den) < 18446744073709551616^m * 18446744073709551616^n:=Nat.mul_lt_mul'' a1 (Nat.lt_of_le_of_lt (Nat.div_le_self _ _) c2)
  have h5:g.num.natAbs*(f.den/Nat.gcd f.den g.den) < 18446744073709551616^n * 18446744073709551616^m:=Nat.mul_lt_mul'' c1 (Nat.lt_of_le_of_lt (Nat.div_le_self _ _) a2)
  rw [Nat.mul_comm (18446744073709551616^n)] at h5
  rw [Nat.pow_succ,Nat.pow_add]
  generalize 18446744073709551616^m * 18446744073709551616^n=P at *
  omega
 refine len_of (m:=m+n+1) (n:=m+n) ?_ ?_ k hk (by omega)
 ·rw [e1,sgn_abs];exact Nat.lt_of_le_of_lt (Nat.div_le_self _ _) hMl
 ·rw [e2,Nat.pow_add]
  exact Nat.mul_lt_mul'' (Nat.lt_of_le_of_lt (Nat.div_le_self _ _) a2) (Nat.lt_of_le_of_lt (Nat.div_le_self _ _) c2)
theorem len_inv {f:Rat} {m:Nat} (h:Len f m) (h0:f.num≠0):Len f⁻¹ m:=by
 obtain ⟨i1,i2,-⟩:=inv_facts f h0
 unfold Len
 rw [i1,i2]
 exact ⟨h.2,h.1⟩
theorem len_div {f g:Rat} {m n:Nat} (h1:Len f m) (h2:Len g n) (h0:g.num≠0) (k:Nat) (hk:m+n≤k):Len (f/g) k:=by
 rw [Rat.div_def];exact len_mul h1 (len_inv h2 h0) k hk
theorem of_rel (x y:Int) (p q k:Nat) (hx:x.natAbs=p*k) (hy:y.natAbs=q*k):sgn (decide (x<0) != decide (y<0)) p*y=x*q:=by
 have ex:x=sgn (decide (x<0)) (p*k):=by
  by_cases h:x<0
  ·simp [sgn,h];omega
  ·simp [sgn,h];omega
 have ey:y=sgn (decide (y<0)) (q*k):=by
  by_cases h:y<0
  ·simp [sgn,h];omega
  ·simp [sgn,h];omega
 generalize decide (x<0)=a at *
 generalize decide (y<0)=b at *
 rw [ex,ey]
 cases a <;> cases b <;> simp [sgn,Int.natCast_mul] <;> grind
theorem fracOf_at (x y:Int) (hx1:-9223372036854775808≤x) (hx2:x<9223372036854775808) (hy1:-9223372036854775808≤y) (hy2:y<9223372036854775808) (hy0:y≠0) :
  ∃ (f:Rat) (r:Bool) (p q:Int),Len f 1∧f.num*y=x*f.den∧(∀ W,FracAt W (.agg #[.bool r,.int .u64 p,.int .u64 q,.pointer none]) f)∧∀ W,Calls Tryz.prog 34 #[.int .i64 x,.int .i64 y] W fun e w'=>e=.returned (.tuple #[.agg #[.bool r,.int .u64 p,.int .u64 q,.pointer none],.nilIface])∧But [] W w':=by
 have hyp:0<y.natAbs:=by omega
 have hg:0<Nat.gcd x.natAbs y.natAbs:=Nat.gcd_pos_of_pos_right _ hyp
 have hd1:=Nat.div_mul_cancel (Nat.gcd_dvd_left x.natAbs y.natAbs)
 have hd2:=Nat.div_mul_cancel (Nat.gcd_dvd_right x.natAbs y.natAbs)
 have hq0:0<y.natAbs/Nat.gcd x.natAbs y.natAbs:=Nat.div_pos (Nat.le_of_dvd hyp (Nat.gcd_dvd_right _ _)) hg
 have hpB:x.natAbs/Nat.gcd x.natAbs y.natAbs < 18446744073709551616:=Nat.lt_of_le_of_lt (Nat.div_le_self _ _) (by omega)
 have hqB:y.natAbs/Nat.gcd x.natAbs y.natAbs < 18446744073709551616:=Nat.lt_of_le_of_lt (Nat.div_le_self _ _) (by omega)
 obtain ⟨f,hn,hd⟩:=rat_ex (decide (x<0) != decide (y<0)) _ _ hq0 (gcd_cop x.natAbs y.natAbs hyp)
 have habs:f.num.natAbs=x.natAbs/Nat.gcd x.natAbs y.natAbs:=by rw [hn,sgn_abs]
 refine ⟨f,decide (f.num<0),(f.num.natAbs:Int),(f.den:Int)-1,?_,?_,fun W=>.inl ⟨by rw [habs];exact hpB,by rw [hd];exact hqB,rfl⟩,fun W=>?_⟩
 ·exact len_of (m:=1) (n:=1) (by rw [habs,Nat.pow_one];exact hpB) (by rw [hd,Nat.pow_one];exact hqB) 1 (Nat.le_refl _) (Nat.le_refl _)
 ·rw [hn,hd]
  exact of_rel x y _ _ _ hd1.symm hd2.symm
 ·rw [habs,hd]
  exact fracOf_any x y hx1 hx2 hy1 hy2 hy0 W _ _ _ (by show _=_;rw [hn,sgn_neg]) rfl rfl
theorem plainF_any (x y:Int) (hx1:-9223372036854775808≤x) (hx2:x<9223372036854775808) (hy1:-9223372036854775808≤y) (hy2:y<9223372036854775808) :
  ∃ (f:Rat) (r:Bool) (p q:Int),Len f 1∧f.num*(if y=0 then 1 else y)=x*f.den∧(∀ W,FracAt W (.agg #[.bool r,.int .u64 p,.int .u64 q,.pointer none]) f)∧∀ W,Calls Tryz.prog 7 #[.agg #[.int .i64 x,.int .i64 y]] W fun e w'=>e=.returned (.agg #[.bool r,.int .u64 p,.int .u64 q,.pointer none])∧But [] W w':=by
 by_cases hy0:y=0
 ·subst hy0
  obtain ⟨f,r,p,q,h1,h2,h3,h4⟩:=fracOf_at x 1 hx1 hx2 (by omega) (by omega) (by omega)
  refine ⟨f,r,p,q,h1,by rw [if_pos rfl];exact h2,h3,fun w=>?_⟩
  have OF:=hide h4
  clear h1 h2 h3 h4
  go_enter Tryz.func7,Tryz.ntmps7
  go_wp2_with fail
  obtain ⟨W,hW⟩:∃ W,W=(w.alloc (.cells #[.int .i64 x,.int .i64 1] 23)).alloc (.cells #[.bool false,.int .u64 0,.int .u64 0,.pointer none] 27):=⟨_,rfl⟩
  have r0:W.cell? ⟨w.heap.size+1,0,none⟩=some (.bool false):=by rw [hW];simp
  have r1:W.cell? ⟨w.heap.size+1,1,none⟩=some (.int .u64 0):=by rw [hW];simp
  have r2:W.cell? ⟨w.heap.size+1,2,none⟩=some (.int .u64 0):=by rw [hW];simp
  have r3:W.cell? ⟨w.heap.size+1,3,none⟩=some (.pointer none):=by rw [hW];simp
  have fz:∀ j,W.frozen? ⟨w.heap.size+1,j,none⟩=false:=fun j=>by rw [hW];simp
  have hB:But [] w W:=by rw [hW];exact ((But.refl _ _).alloc _).alloc _
  rw [← hW]
  clear hW
  obtain ⟨gr,hgr⟩:∃ gr,gr=w.heap.size+1:=⟨_,rfl⟩
  rw [← hgr] at r0 r1 r2 r3 fz
  rw [← hgr]
  have HGR:Hid (w.heap.size≤gr):=by show _≤_;omega
  clear hgr
  have grl:gr<W.heap.size:=lt_of_cell r0
  refine (unhide OF _).mono ?_
  rintro e w1 ⟨rfl,hb1⟩
  have u0:=hb1.cell_some r0 (by simp)
  have u1:=hb1.cell_some r1 (by simp)
  have u2:=hb1.cell_some r2 (by simp)
  have u3:=hb1.cell_some r3 (by simp)
  have uf:∀ j,w1.frozen? ⟨gr,j,none⟩=false:=fun j=>(hb1.frozen (p:=⟨gr,j,none⟩) grl (by simp)).trans (fz j)
  have HB1:Hid (But [] w w1):=hB.trans' hb1
  have gl1:gr<w1.heap.size:=lt_of_cell u0
  clear hb1 hB r0 r1 r2 r3 fz grl
  go_wp2
  have hBf:=(((((unhide HB1).setCell (p:=⟨gr,0,none⟩) (.inr (unhide HGR)) (.bool r)).setCell (p:=⟨gr,1,none⟩) (.inr (unhide HGR)) (.int .u64 p)).setCell (p:=⟨gr,2,none⟩) (.inr (unhide HGR)) (.int .u64 q)).setCell (p:=⟨gr,3,none⟩) (.inr (unhide HGR)) (.pointer none)).alloc (.cells #[.bool r,.int .u64 p,.int .u64 q,.pointer none] 27)
  exact bodyPost_ret (v:=.agg #[.bool r,.int .u64 p,.int .u64 q,.pointer none]) (by simp [results,Tryz.results7,go_sem,u0,u1,u2,u3,gl1]) rfl ⟨rfl,hBf⟩
 ·obtain ⟨f,r,p,q,h1,h2,h3,h4⟩:=fracOf_at x y hx1 hx2 hy1 hy2 hy0
  refine ⟨f,r,p,q,h1,by rw [if_neg hy0];exact h2,h3,fun w=>?_⟩
  have n0:(y==0)=false:=by simp [hy0]
  have OF:=hide h4
  clear h1 h2 h3 h4
  go_enter Tryz.func7,Tryz.ntmps7
  go_wp2_with fail
  obtain ⟨W,hW⟩:∃ W,W=(w.alloc (.cells #[.int .i64 x,.int .i64 y] 23)).alloc (.cells #[.bool false,.int .u64 0,.int .u64 0,.pointer none] 27):=⟨_,rfl⟩
  have r0:W.cell? ⟨w.heap.size+1,0,none⟩=some (.bool false):=by rw [hW];simp
  have r1:W.cell? ⟨w.heap.size+1,1,none⟩=some (.int .u64 0):=by rw [hW];simp
  have r2:W.cell? ⟨w.heap.size+1,2,none⟩=some (.int .u64 0):=by rw [hW];simp
  have r3:W.cell? ⟨w.heap.size+1,3,none⟩=some (.pointer none):=by rw [hW];simp
  have fz:∀ j,W.frozen? ⟨w.heap.size+1,j,none⟩=false:=fun j=>by rw [hW];simp
  have hB:But [] w W:=by rw [hW];exact ((But.refl _ _).alloc _).alloc _
  rw [← hW]
  clear hW
  obtain ⟨gr,hgr⟩:∃ gr,gr=w.heap.size+1:=⟨_,rfl⟩
  rw [← hgr] at r0 r1 r2 r3 fz
  rw [← hgr]
  have HGR:Hid (w.heap.size≤gr):=by show _≤_;omega
  clear hgr
  have grl:gr<W.heap.size:=lt_of_cell r0
  refine (unhide OF _).mono ?_
  rintro e w1 ⟨rfl,hb1⟩
  have u0:=hb1.cell_some r0 (by simp)
  have u1:=hb1.cell_some r1 (by simp)
  have u2:=hb1.cell_some r2 (by simp)
  have u3:=hb1.cell_some r3 (by simp)
  have uf:∀ j,w1.frozen? ⟨gr,j,none⟩=false:=fun j=>(hb1.frozen (p:=⟨gr,j,none⟩) grl (by simp)).trans (fz j)
  have HB1:Hid (But [] w w1):=hB.trans' hb1
  have gl1:gr<w1.heap.size:=lt_of_cell u0
  clear hb1 hB r0 r1 r2 r3 fz grl
  go_wp2
  have hBf:=(((((unhide HB1).setCell (p:=⟨gr,0,none⟩) (.inr (unhide HGR)) (.bool r)).setCell (p:=⟨gr,1,none⟩) (.inr (unhide HGR)) (.int .u64 p)).setCell (p:=⟨gr,2,none⟩) (.inr (unhide HGR)) (.int .u64 q)).setCell (p:=⟨gr,3,none⟩) (.inr (unhide HGR)) (.pointer none)).alloc (.cells #[.bool r,.int .u64 p,.int .u64 q,.pointer none] 27)
  exact bodyPost_ret (v:=.agg #[.bool r,.int .u64 p,.int .u64 q,.pointer none]) (by simp [results,Tryz.results7,go_sem,u0,u1,u2,u3,gl1]) rfl ⟨rfl,hBf⟩
end Go.Proofs.YtollloafckcogaaGreatDoor
