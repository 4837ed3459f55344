/- A word's decimal digits, as the library's text writes them. -/
import Derived.Lib.ItoaMem
import Derived.Laws.IdiomStrings
import Derived.Lib.AppendIntMem
import Derived.Shelf.Strings.Trim
import Derived.Shelf.Strconv.Atoi
import Derived.Shelf.Strconv.Itoa3
import Derived.RangeFuncNested
import Derived.RangeFuncBound
import Derived.RangeFuncCalls
import Derived.RangeFuncLeaves
import Derived.Shelf.Abstract
import Derived.Shelf.RegionOpen
import Derived.WalkKit
import Derived.OwnWalkIn
import Derived.TacticsInMore
import Derived.LoopNIn
import Derived.LoopIn
import Derived.Test.YtndcigdphgojpaaGreatDoorKTF4
import Derived.Test.YtndcigdphgojpaaGreatDoorKTN12f
namespace Go.Proofs.YtndcigdphgojpaaGreatDoor
open Go.RowKit Go.Sort Go.Lib

theorem holds_zero0 (w : World) (T : TypeId) (nd : Nat) (hs : nd ≤ 24) : Holds (fun (b : UInt8) => Value.int .u8 (b.toNat : Int)) (w.alloc (.cells zeros24 T)) w.heap.size 0 (Array.replicate nd (0 : UInt8)):=fun j hj => by
 rw [Array.size_replicate] at hj
 refine ⟨?_,by simp⟩
 rw [World.cell?_alloc_new,zeros24_at _ (by omega),getElem!_pos _ j (by rw [Array.size_replicate]; exact hj)]
 simp

set_option maxHeartbeats 4000000 in
set_option maxRecDepth 100000 in
theorem formatUint_any (u : Nat) (hu : u < 18446744073709551616) (w : World) (htab : Lib.TabIs Tryz.prog w "internal/strconv.uint64pow10" .u64 Lib.pow10Tab) (t : ByteArray) (ht : Hid (t = ⟨(Lib.decDigits u).toArray⟩)) :
  Calls Tryz.prog 128 #[.int .u64 u,.int .i64 10] w fun e w' => e = .returned (.string t)∧But [] w w':=by
 by_cases hs : u < 100
 ·have H:=hide htab
  clear htab
  go_enter Tryz.func128,Tryz.ntmps128
  go_wp2_with fail
  refine (Tryz.internal_strconv_small u hs _).mono ?_
  rintro e w1 ⟨rfl,hw⟩
  obtain rfl:=hw.symm
  clear hw
  rw [← unhide ht]
  clear ht
  go_wp2
  go_ret
  exact ⟨rfl,But.refl _ _⟩
 ·have hu1 : 1 ≤ u:=by omega
  have hnd20 : Lib.nDigits u ≤ 20:=by have:=Lib.numDigits_eq u hu1 hu; split at this <;> omega
  have H:=hide htab
  clear htab
  go_enter Tryz.func128,Tryz.ntmps128
  go_wp2_with fail
  refine (Tryz.internal_strconv_numDigits u hu1 hu _ (Lib.tabIs_alloc (unhide H) _)).mono ?_
  rintro e w1 ⟨rfl,hw⟩
  obtain rfl:=hw.symm
  clear hw
  have hH0:=holds_zero0 w 181 (Lib.nDigits u) (by omega)
  have hfmt:=hide (Tryz.internal_strconv_formatBase10 w.heap.size 0 24 u (Array.replicate (Lib.nDigits u) 0) (w.alloc (.cells Lib.zeros24 181)) hH0 (by rw [Array.size_replicate]; exact Lib.lt_pow_nDigits u) hu (by rw [Array.size_replicate]; omega))
  rw [Array.size_replicate] at hfmt
  have HH:=hide hH0
  clear hH0
  have hnl:=Lib.decDigits_length u
  have HND:=hide hnl
  clear hnl
  generalize hndd : Lib.nDigits u = nd at *
  have HE:=hide hndd
  clear hndd
  have hal : Tryz.prog.arrayLen 181 = 24:=by kernel_rfl
  have hsl : ∀ W,(Instr.sliceAt 181 (.pointer (some ⟨w.heap.size,0,none⟩)) none (some (.int .i64 (nd : Int))) none).run Tryz.prog W = .ok (.slice (some ⟨w.heap.size,0,none⟩) nd 24) W:=fun W => by
   rw [run_sliceAt_array_h W 181 ⟨w.heap.size,0,none⟩ (by kernel_rfl) .i64 (nd : Int) (by omega) (by rw [hal]; omega)]
   go_simp
  go_wp2_with fail
  refine (unhide hfmt).mono ?_
  rintro e w1 ⟨rfl,k,v',dk,hw1,hF⟩
  have hF' : FmtInv (Lib.nDigits u) u 0 v' dk:=by rw [unhide HE]; exact hF
  have hcv : (convert 113 9 (.slice (some ⟨w.heap.size,0,none⟩) nd 24)).run Tryz.prog w1 = .ok (.string t) w1:=by
   have h:=run_convert_bytes_back (P:=Tryz.prog) w1 113 9 5 ⟨w.heap.size,0,none⟩ 24 (Lib.decDigits u) Tryz.underlying113 Tryz.underlying5 Tryz.underlying9 (fun j hj => by
    rw [Lib.row_is_numeral hF' j hj,Lib.add_plain,hw1,World.cell?_drewN]
    exact cell?_putRow (fun (b : UInt8) => Value.int .u8 (b.toNat : Int)) _ w.heap.size 0 _ dk (unhide HH) (by rw [hF.size,Array.size_replicate]) j (by rw [hF.size]; rw [unhide HND] at hj; exact hj))
   rw [unhide HND,← unhide ht] at h
   exact h
  have hB : But [] w w1:=by
   rw [hw1,alloc_eq_grow]
   obtain ⟨os',_,e⟩:=putRow_grow_new (fun (b : UInt8) => Value.int .u8 (b.toNat : Int)) w #[.cells Lib.zeros24 181] w.heap.size 0 dk (Nat.le_refl _)
   rw [e]
   have hg : But [] w (grow w os'):=⟨rfl,rfl,rfl,by show w.heap.size ≤ (w.heap ++ os').size; rw [Array.size_append]; omega,fun k hk _ => Array.getElem?_append_left hk⟩
   exact hg.drewN k
  clear hw1 hF hF' HH HND HE hfmt
  go_wp2
  go_ret
  exact ⟨rfl,hB⟩

set_option maxHeartbeats 1000000 in
theorem strconvFormatUint_any (u : Nat) (hu : u < 18446744073709551616) (w : World) (htab : Lib.TabIs Tryz.prog w "internal/strconv.uint64pow10" .u64 Lib.pow10Tab) (t : ByteArray) (ht : Hid (t = ⟨(Lib.decDigits u).toArray⟩)) :
  Calls Tryz.prog 89 #[.int .u64 u,.int .i64 10] w fun e w' => e = .returned (.string t)∧But [] w w':=by
 have H:=hide htab
 clear htab
 go_enter Tryz.func89,Tryz.ntmps89
 go_wp2_with fail
 refine (formatUint_any u hu _ (unhide H) t ht).mono ?_
 rintro e w1 ⟨rfl,hb⟩
 go_wp2
 go_ret
 exact ⟨rfl,hb⟩
end Go.Proofs.YtndcigdphgojpaaGreatDoor

namespace Go.Proofs.YtndcigdphgojpaaGreatDoor
open Go.RowKit

theorem TabIs.but {w w' : World} (h : Lib.TabIs Tryz.prog w "internal/strconv.uint64pow10" .u64 Lib.pow10Tab) (hb : But [] w w') : Lib.TabIs Tryz.prog w' "internal/strconv.uint64pow10" .u64 Lib.pow10Tab :=
 Go.Lib.tabBelow_of_tabIs h w' hb.below
end Go.Proofs.YtndcigdphgojpaaGreatDoor

namespace Go.Proofs.YtndcigdphgojpaaGreatDoor
open Go.RowKit

/-- the powers that a text is parted by -/
structure Powers (w : World) (vp : Value) (us : List Value) : Prop where
 form : ∃ a c,vp = .slice a us.length c∧us.length ≤ c∧∀ j u,us[j]? = some u→∃ g o,a = some ⟨g,o,none⟩∧g < w.heap.size∧w.cell? ⟨g,o + j,none⟩ = some u
 all : ∀ j u,us[j]? = some u→Sl .u64 w u (wd 18446744073709551616 (tenP j))
theorem powers_of {w : World} {base : Nat} {vp : Value} {us : List Value} (h : w.ownsRow base 71 1 vp us.length us) (ha : ∀ j u,us[j]? = some u→Sl .u64 w u (wd 18446744073709551616 (tenP j))) : Powers w vp us:=by
 refine ⟨?_,ha⟩
 rcases h.2 with ⟨rfl,h0⟩ | ⟨g,cap,cur,rfl,h2,h3,h4,-⟩
 ·exact ⟨none,0,by rw [h0],by omega,fun j u hj => by have:=(List.getElem?_eq_some_iff.1 hj).1; omega⟩
 ·refine ⟨_,cap,rfl,h4,fun j u hj => ⟨g,0,rfl,(h.lt g rfl).2,?_⟩⟩
  have:=h.cells (g:=g) rfl j u hj
  rw [addr_add] at this
  exact this
/-- what is asked of writing a number by so many powers -/
def LongOK (L : Nat) : Prop:=∀ (base : Nat) (w0 : World) (vp : Value) (us : List Value) (vo : Value) (ods : List UInt8) (v : Value) (X Wd : Nat) (w : World),base = w0.heap.size→Powers w0 vp us→us.length = L→Below base w0 w →
 Sl .u64 w v (wd 18446744073709551616 X)→X < tenP L→(Wd = 0∧0 < X ∨ Wd = 608 * 2 ^ L)→(wd 18446744073709551616 X).length ≤ 1000000→ods.length + (rdig X).length + 2 * (608 * 2 ^ L) < 1073741000→w.ownsRow base 5 1 vo ods.length (ods.map u8v)→(vo = .slice none 0 0 ∨ 0 < ods.length)→(∀ j u,us[j]? = some u→Sl .u64 w u (wd 18446744073709551616 (tenP j))) →
 Calls Tryz.prog 90 #[vo,v,.int .i64 (Wd : Int),vp] w fun e w' => ∃ v',e = .returned v'∧w'.ownsRow base 5 1 v' (ods ++ (wdig Wd X).reverse).length ((ods ++ (wdig Wd X).reverse).map u8v)∧Below base w w'∧Keep64 w w'

set_option maxHeartbeats 4000000 in
set_option maxRecDepth 100000 in
theorem appendLong_zero : LongOK 0:=by
 intro base w0 vp us vo ods v X Wd w hbase hP hL hB hv hX hW hl hd ho hn _
 have hbs : base ≤ w.heap.size:=by rw [hbase]; exact hB.size
 have h608 : 608 * 2 ^ 0 = 608:=by decide
 rw [h608] at hW hd
 have AS:=hide (appendShort_any base vo ods v X Wd w hv (by rcases hW with h | h <;> omega) (by omega) (by rcases hW with h | h <;> omega) ho hn hbs)
 obtain ⟨a,c,e,-,-⟩:=hP.form
 rw [hL] at e
 subst e
 obtain ⟨xa,xc,rfl,-,-⟩:=hv
 obtain ⟨oa,oc,rfl⟩:=owns_shape ho
 clear hX hW hP hL ho hn hB
 generalize (wd 18446744073709551616 X).length = n at *
 generalize ods.length = no at *
 go_enter Tryz.func90,Tryz.ntmps90
 go_wp2_with fail
 refine (unhide AS).mono ?_
 rintro e w1 ⟨v1,rfl,ho,hb,hk⟩
 have HO:=hide (And.intro ho (And.intro hb hk))
 clear ho hb hk
 go_wp2
 go_ret
 exact ⟨v1,rfl,(unhide HO).1,(unhide HO).2.1,(unhide HO).2.2⟩

theorem tenP_len (L : Nat) : (wd 18446744073709551616 (tenP L)).length ≤ 38 * 2 ^ L:=by
 refine wd_length_le (by omega) _ _ ?_
 have e : (18446744073709551616 : Nat) ^ (38 * 2 ^ L) = 16 ^ (608 * 2 ^ L):=by
  rw [show (18446744073709551616 : Nat) = 16 ^ 16 from by decide,← Nat.pow_mul,← Nat.mul_assoc]
 rw [e]
 exact Nat.pow_lt_pow_left (by omega) (by have : 0 < 2 ^ L:=Nat.pow_pos (by omega); omega)
theorem below_cell {n : Nat} {w w' : World} (h : Below n w w') {g i : Nat} {u : Value} (hg : g < n) (hc : w.cell? ⟨g,i,none⟩ = some u) : w'.cell? ⟨g,i,none⟩ = some u:=(World.cell?_of_block (w:=w) (h.block g hg)).trans hc
theorem Powers.take {w : World} {g o c L : Nat} {us : List Value} (h : Powers w (.slice (some ⟨g,o,none⟩) us.length c) us) (hL : L ≤ us.length) : Powers w (.slice (some ⟨g,o,none⟩) L c) (us.take L):=by
 have hl : (us.take L).length = L:=by rw [List.length_take]; omega
 have hsub : ∀ j u,(us.take L)[j]? = some u→us[j]? = some u:=fun j u hj => by
  have hlt : j < L:=by have:=(List.getElem?_eq_some_iff.1 hj).1; omega
  rw [List.getElem?_take_of_lt hlt] at hj
  exact hj
 obtain ⟨a,c',e,h1,h2⟩:=h.form
 simp only [Value.slice.injEq] at e
 obtain ⟨rfl,-,rfl⟩:=e
 exact ⟨⟨_,c,by rw [hl],by omega,fun j u hj => h2 j u (hsub j u hj)⟩,fun j u hj => h.all j u (hsub j u hj)⟩
/-- both halves' digits -/
theorem wdig_halves (L X Wd : Nat) (hX : X < tenP (L + 1)) (hW : (Wd = 0∧0 < X) ∨ Wd = 608 * 2 ^ (L + 1)) (hne : ¬ (X / tenP L = 0∧Wd = 0)) :
  (wdig Wd X).reverse = (wdig (Wd - 608 * 2 ^ L) (X / tenP L)).reverse ++ (wdig (608 * 2 ^ L) (X % tenP L)).reverse∧((Wd - 608 * 2 ^ L = 0∧0 < X / tenP L) ∨ Wd - 608 * 2 ^ L = 608 * 2 ^ L):=by
 have hp:=tenP_pos L
 have e2 : 608 * 2 ^ (L + 1) = 608 * 2 ^ L + 608 * 2 ^ L:=by rw [Nat.pow_succ]; omega
 rcases hW with ⟨rfl,h0⟩ | h
 ·have h1 : 0 < X / tenP L:=by
   rcases Nat.eq_zero_or_pos (X / tenP L) with h | h
   ·exact absurd ⟨h,rfl⟩ hne
   ·exact h
  have h2 : tenP L ≤ X:=by
   rcases Nat.lt_or_ge X (tenP L) with h | h
   ·rw [Nat.div_eq_of_lt h] at h1; omega
   ·exact h
  rw [Nat.zero_sub]
  refine ⟨?_,.inl ⟨rfl,h1⟩⟩
  rw [wdig_long (608 * 2 ^ L) X h2,List.reverse_append]; rfl
 ·rw [h,e2,Nat.add_sub_cancel]
  refine ⟨?_,.inr rfl⟩
  rw [wdig_wide (608 * 2 ^ L) X (by rw [← e2]; exact hX),List.reverse_append]; rfl

set_option maxHeartbeats 8000000 in
set_option maxRecDepth 100000 in
theorem appendLong_succ (L : Nat) (IH : LongOK L) (hL20 : L < 20) : LongOK (L + 1):=by
 intro base w0 vp us vo ods v X Wd w hbase hP hL hB hv hX hW hl hd ho hn hall
 have hp:=tenP_pos L
 have e2 : 608 * 2 ^ (L + 1) = 608 * 2 ^ L + 608 * 2 ^ L:=by rw [Nat.pow_succ]; omega
 have hh : X / tenP L < tenP L:=by rw [Nat.div_lt_iff_lt_mul hp,← tenP_succ]; exact hX
 have hlo : X % tenP L < tenP L:=Nat.mod_lt _ hp
 obtain ⟨u,hu⟩ : ∃ u,us[L]? = some u:=⟨us[L],List.getElem?_eq_getElem (by omega)⟩
 obtain ⟨a,c,rfl,hc1,hcell⟩:=hP.form
 obtain ⟨g,o,rfl,hg,hcu⟩:=hcell L u hu
 rw [hbase.symm] at hg
 have cu:=below_cell hB hg hcu
 have hPT : Powers w0 (.slice (some ⟨g,o,none⟩) L c) (us.take L):=hP.take (by omega)
 have hTL : (us.take L).length = L:=by rw [List.length_take]; omega
 have hsub : ∀ j u,(us.take L)[j]? = some u→us[j]? = some u:=fun j u hj => by
  have hlt : j < L:=by have:=(List.getElem?_eq_some_iff.1 hj).1; omega
  rw [List.getElem?_take_of_lt hlt] at hj
  exact hj
 obtain ⟨D,hD⟩ : ∃ D,D = 608 * 2 ^ L:=⟨_,rfl⟩
 have rh : (rdig (X / tenP L)).length ≤ D:=rdig_length _ _ (by rw [hD]; exact hh)
 have rl : (rdig (X % tenP L)).length ≤ D:=rdig_length _ _ (by rw [hD]; exact hlo)
 have lh : (wd 18446744073709551616 (X / tenP L)).length ≤ 1000000:=Nat.le_trans (wd_len_mono (Nat.div_le_self _ _)) hl
 have ll : (wd 18446744073709551616 (X % tenP L)).length ≤ 1000000:=Nat.le_trans (wd_len_mono (Nat.mod_le _ _)) hl
 have lu:=hall L u hu
 have QR:=hide (natQuoRem_any v u X (tenP L) w hv lu hp (by omega) (by
  have:=tenP_len L
  have h19 : 2 ^ L ≤ 2 ^ 19:=Nat.pow_le_pow_right (by omega) (by omega)
  omega) (Short.of _ _ hl))
 have hDB : D < 1073741000:=by rw [hD]; omega
 have hbs : base ≤ w.heap.size:=by rw [hbase]; exact hB.size
 have HDW : Hid (wrap64 (608 * 2 ^ L) = (D : Int)):=by
  have e : (608 : Int) * 2 ^ L = (D : Int):=by rw [hD]; simp
  show _ = _
  rw [e]; unfold wrap64; omega
 have hLc : L < c:=by omega
 have i1 : (0 : Int) ≤ (L : Int):=by omega
 have i2 : (L : Int) ≤ (c : Int):=by omega
 have i3 : (L : Int) ≤ (L : Int) + 1:=by omega
 have HALL:=hide hall
 have HO:=hide (And.intro ho hn)
 have HB:=hide hB
 have IHA:=hide (fun ods' vo' v' X' W' W (h1 : Below base w0 W) (h2 : Sl .u64 W v' (wd 18446744073709551616 X')) (h3 : X' < tenP L) (h4 : W' = 0∧0 < X' ∨ W' = 608 * 2 ^ L) (h5 : (wd 18446744073709551616 X').length ≤ 1000000) h6 h7 h8 (h9 : ∀ j u,us[j]? = some u→Sl .u64 W u (wd 18446744073709551616 (tenP j))) => IH base w0 _ _ vo' ods' v' X' W' W hbase hPT hTL h1 h2 h3 h4 h5 h6 h7 h8 (fun j u hj => h9 j u (hsub j u hj)))
 have HX:=hide hX
 have HW:=hide hW
 have HD2:=hide (And.intro hD (And.intro rh (And.intro rl (And.intro lh (And.intro ll (And.intro hh hlo))))))
 clear hDB
 have HDD : Hid (ods.length + 4 * D < 1073741000):=by show _ < _; rw [hD]; omega
 obtain ⟨xa,xc,rfl,-,-⟩:=hv
 obtain ⟨oa,oc,rfl⟩:=owns_shape ho
 rw [hL]
 clear hX hW hP hL ho hn hB IH hPT hTL hsub hall hcell hcu hu hp hc1 hbase hd rh rl lh ll hh hlo e2 hD
 generalize (wd 18446744073709551616 X).length = n at *
 generalize hno : ods.length = no at *
 go_enter Tryz.func90,Tryz.ntmps90
 go_wp2_with fail
 refine (unhide QR).mono ?_
 rw [unhide HDW]
 rintro e1 w1 ⟨v1,v2,rfl,hv1,hv2,hb1,-⟩
 have HV1:=hide hv1
 have HV2:=hide hv2
 have B1:=hide hb1
 have HB1:=hide (below_trans (unhide HB) (hb1.below_of hbs))
 obtain ⟨ha,hc,rfl,-,-⟩:=hv1
 clear hv2 hb1 QR
 by_cases h0 : X / tenP L = 0∧Wd = 0
 ·obtain ⟨hq0,hw0⟩:=h0
  have hXL : X % tenP L = X:=by
   have:=Nat.div_add_mod X (tenP L)
   rw [hq0,Nat.mul_zero,Nat.zero_add] at this
   exact this
  have hX0 : 0 < X:=by
   have hDp : 0 < 608 * 2 ^ (L + 1):=Nat.mul_pos (by omega) (Nat.pow_pos (by omega))
   rcases unhide HW with h | h
   ·exact h.2
   ·omega
  have HXL:=hide hXL
  have A:=hide (unhide IHA ods (.slice oa no oc) v2 (X % tenP L) 0 w1 (unhide HB1) (unhide HV2) (unhide HD2).2.2.2.2.2.2 (.inl ⟨rfl,by rw [hXL]; exact hX0⟩) (unhide HD2).2.2.2.2.1 (by have h1:=(unhide HD2).2.2.1; have h2:=(unhide HD2).1; have h3:=unhide HDD; omega) (by rw [hno]; exact owns_but (unhide HO).1 (unhide B1)) (by rw [hno]; exact (unhide HO).2) (fun j u hj => (unhide HALL j u hj).but_nil (unhide B1)))
  rw [hq0,wd_zero,List.length_nil]
  subst hw0
  clear hq0 hXL hX0 IHA HV1 HD2 HX HW HALL HO
  go_wp2_with fail
  refine (unhide A).mono ?_
  rintro e2 w2 ⟨v3,rfl,ho2,hb2,hk2⟩
  have FIN:=hide (And.intro ho2 (And.intro (below_trans ((unhide B1).below_of hbs) hb2) ((Keep64.of_but (unhide B1)).trans hk2)))
  rw [unhide HXL] at FIN
  clear ho2 hb2 hk2 A
  go_wp2
  go_ret
  exact ⟨v3,rfl,(unhide FIN).1,(unhide FIN).2.1,(unhide FIN).2.2⟩
 ·obtain ⟨f1,f2⟩:=wdig_halves L X Wd (unhide HX) (unhide HW) h0
  rw [← (unhide HD2).1] at f1 f2
  obtain ⟨W',hW'⟩ : ∃ W',W' = Wd - D:=⟨_,rfl⟩
  rw [← hW'] at f1 f2
  have hmax : max ((Wd : Int) - (D : Int)) 0 = (W' : Int):=by omega
  have hWl : W' ≤ D:=by omega
  have hWdl : Wd ≤ 2 * D:=by
   have e2 : 608 * 2 ^ (L + 1) = 608 * 2 ^ L + 608 * 2 ^ L:=by rw [Nat.pow_succ]; omega
   have:=(unhide HD2).1
   rcases unhide HW with h | h <;> omega
  have A:=hide (unhide IHA ods (.slice oa no oc) (.slice ha (wd 18446744073709551616 (X / tenP L)).length hc) (X / tenP L) W' w1 (unhide HB1) (unhide HV1) (unhide HD2).2.2.2.2.2.1 (by rw [← (unhide HD2).1]; exact f2) (unhide HD2).2.2.2.1 (by have h1:=(unhide HD2).2.1; have h2:=(unhide HD2).1; have h3:=unhide HDD; omega) (by rw [hno]; exact owns_but (unhide HO).1 (unhide B1)) (by rw [hno]; exact (unhide HO).2) (fun j u hj => (unhide HALL j u hj).but_nil (unhide B1)))
  have F1:=hide f1
  have WL : Hid (0 < (wdig W' (X / tenP L)).length∧(wdig W' (X / tenP L)).length ≤ D):=by
   refine ⟨wdig_pos _ _ (by have hDp : 0 < 608 * 2 ^ L:=Nat.mul_pos (by omega) (Nat.pow_pos (by omega)); have:=(unhide HD2).1; rcases f2 with h | h <;> omega),?_⟩
   rw [wdig_length]
   have:=(unhide HD2).2.1
   omega
  have hh0 : ((((wd 18446744073709551616 (X / tenP L)).length : Int) == 0) = true→((Wd : Int) == 0) = false):=fun h => by
   have h1 : (wd 18446744073709551616 (X / tenP L)).length = 0:=by have:=beq_iff_eq.1 h; omega
   rw [wd_len_zero (by omega)] at h1
   rw [beq_eq_false_iff_ne]
   intro h2
   exact h0 ⟨h1,by omega⟩
  clear f1 f2 h0 hW'
  generalize (wd 18446744073709551616 (X / tenP L)).length = nh at *
  have hsub64 : wrap64 ((Wd : Int) - (D : Int)) = (Wd : Int) - (D : Int):=by have:=unhide HDD; unfold wrap64; omega
  by_cases hn0 : nh = 0
  ·have hne : ((Wd : Int) == 0) = false:=hh0 (by simp [hn0])
   subst hn0
   clear hh0
   go_wp2_with fail
   refine (unhide A).mono ?_
   rintro e2 w2 ⟨v3,rfl,ho2,hb2,hk2⟩
   have HB2:=hide (below_trans (unhide HB1) hb2)
   have HV22:=hide (hk2 _ _ (unhide HV2))
   obtain ⟨oa2,oc2,rfl⟩:=owns_shape ho2
   have hol : (ods ++ (wdig W' (X / tenP L)).reverse).length = no + (wdig W' (X / tenP L)).length:=by rw [List.length_append,List.length_reverse,hno]
   have A2:=hide (unhide IHA (ods ++ (wdig W' (X / tenP L)).reverse) (.slice oa2 (ods ++ (wdig W' (X / tenP L)).reverse).length oc2) v2 (X % tenP L) D w2 (unhide HB2) (unhide HV22) (unhide HD2).2.2.2.2.2.2 (.inr (unhide HD2).1) (unhide HD2).2.2.2.2.1 (by have h1:=(unhide HD2).2.2.1; have h2:=(unhide HD2).1; have h3:=unhide HDD; have h4:=(unhide WL).2; omega) ho2 (.inr (by have h4:=(unhide WL).1; omega)) (fun j u hj => hk2 _ _ ((unhide HALL j u hj).but_nil (unhide B1))))
   have K2:=hide (And.intro hb2 hk2)
   clear ho2 hb2 hk2 A hol IHA HALL HV22 HB2
   generalize (ods ++ (wdig W' (X / tenP L)).reverse).length = no2 at *
   go_wp2_with fail
   refine (unhide A2).mono ?_
   rintro e3 w3 ⟨v4,rfl,ho3,hb3,hk3⟩
   have FIN:=hide (And.intro ho3 (And.intro (below_trans ((unhide B1).below_of hbs) (below_trans (unhide K2).1 hb3)) (((Keep64.of_but (unhide B1)).trans (unhide K2).2).trans hk3)))
   rw [List.append_assoc,← unhide F1] at FIN
   clear ho3 hb3 hk3 A2
   go_wp2
   go_ret
   exact ⟨v4,rfl,(unhide FIN).1,(unhide FIN).2.1,(unhide FIN).2.2⟩
  ·have hne : ((nh : Int) == 0) = false:=beq_eq_false_iff_ne.2 (by omega)
   clear hh0
   go_wp2_with fail
   refine (unhide A).mono ?_
   rintro e2 w2 ⟨v3,rfl,ho2,hb2,hk2⟩
   have HB2:=hide (below_trans (unhide HB1) hb2)
   have HV22:=hide (hk2 _ _ (unhide HV2))
   obtain ⟨oa2,oc2,rfl⟩:=owns_shape ho2
   have hol : (ods ++ (wdig W' (X / tenP L)).reverse).length = no + (wdig W' (X / tenP L)).length:=by rw [List.length_append,List.length_reverse,hno]
   have A2:=hide (unhide IHA (ods ++ (wdig W' (X / tenP L)).reverse) (.slice oa2 (ods ++ (wdig W' (X / tenP L)).reverse).length oc2) v2 (X % tenP L) D w2 (unhide HB2) (unhide HV22) (unhide HD2).2.2.2.2.2.2 (.inr (unhide HD2).1) (unhide HD2).2.2.2.2.1 (by have h1:=(unhide HD2).2.2.1; have h2:=(unhide HD2).1; have h3:=unhide HDD; have h4:=(unhide WL).2; omega) ho2 (.inr (by have h4:=(unhide WL).1; omega)) (fun j u hj => hk2 _ _ ((unhide HALL j u hj).but_nil (unhide B1))))
   have K2:=hide (And.intro hb2 hk2)
   clear ho2 hb2 hk2 A hol IHA HALL HV22 HB2
   generalize (ods ++ (wdig W' (X / tenP L)).reverse).length = no2 at *
   go_wp2_with fail
   refine (unhide A2).mono ?_
   rintro e3 w3 ⟨v4,rfl,ho3,hb3,hk3⟩
   have FIN:=hide (And.intro ho3 (And.intro (below_trans ((unhide B1).below_of hbs) (below_trans (unhide K2).1 hb3)) (((Keep64.of_but (unhide B1)).trans (unhide K2).2).trans hk3)))
   rw [List.append_assoc,← unhide F1] at FIN
   clear ho3 hb3 hk3 A2
   go_wp2
   go_ret
   exact ⟨v4,rfl,(unhide FIN).1,(unhide FIN).2.1,(unhide FIN).2.2⟩
theorem appendLong_all (L : Nat) (h : L ≤ 20) : LongOK L:=by
 induction L with
 | zero => exact appendLong_zero
 | succ L ih => exact appendLong_succ L (ih (by omega)) (by omega)

theorem dig_len (X n : Nat) (h : (wd 18446744073709551616 X).length ≤ n) : (rdig X).length ≤ 20 * n:=by
 refine rdig_length X _ (Nat.lt_of_lt_of_le (lt_of_wd_length (B:=18446744073709551616) (by omega) X n h) ?_)
 rw [Nat.pow_mul]
 exact Nat.pow_le_pow_left (by decide) _

set_option maxHeartbeats 4000000 in
set_option maxRecDepth 100000 in
theorem natText_all (v : Value) (X : Nat) (w : World) (hv : Sl .u64 w v (wd 18446744073709551616 X)) (hl : (wd 18446744073709551616 X).length ≤ 1000000) (htab : Lib.TabIs Tryz.prog w "internal/strconv.uint64pow10" .u64 Lib.pow10Tab) (t : ByteArray) (ht : Hid (t = ⟨(Lib.decDigits X).toArray⟩)) :
  Calls Tryz.prog 49 #[v] w fun e w' => e = .returned (.string t)∧But [] w w':=by
 by_cases hu : X < 18446744073709551616
 ·have H:=hide htab
  have HW:=hide (natWord_any v X hu w hv)
  obtain ⟨xa,xc,rfl,-,-⟩:=hv
  clear htab
  generalize (wd 18446744073709551616 X).length = n at *
  go_enter Tryz.func49,Tryz.ntmps49
  go_wp2_with fail
  refine (unhide HW).mono ?_
  rintro e w1 ⟨rfl,hw⟩
  obtain rfl:=hw.symm
  clear hw
  go_wp2_with fail
  refine (strconvFormatUint_any X hu _ (unhide H) t ht).mono ?_
  rintro e w1 ⟨rfl,hb⟩
  go_wp2
  go_ret
  exact ⟨rfl,hb⟩
 ·have hp : 0 < X:=by omega
  have HW:=hide (natWord_long v X (by omega) w hv (by omega))
  have PF:=hide (powersFor_any v X w hv hl)
  have HV:=hide hv
  have hdl:=dig_len X _ (Nat.le_refl _)
  have AL : Hid (∀ vo us W,W.ownsRow w.heap.size 71 1 vo us.length us→(∀ j u,us[j]? = some u→Sl .u64 W u (wd 18446744073709551616 (tenP j)))→But [] w W→(∀ j,j < us.length→tenP j ≤ X)→X < tenP us.length →
   Calls Tryz.prog 90 #[.slice none 0 0,v,.int .i64 0,vo] W fun e w' => ∃ v',e = .returned v'∧w'.ownsRow W.heap.size 5 1 v' (rdig X).reverse.length ((rdig X).reverse.map u8v)∧But [] W w'):=fun vo us W h1 h2 h3 h4 h5 => by
   have hL : 1824 * 2 ^ us.length < 128 * 1000000 + 3648:=by
    rcases Nat.eq_zero_or_pos us.length with h0 | h0
    ·rw [h0]; omega
    ·obtain ⟨j,hj⟩ : ∃ j,us.length = j + 1:=⟨us.length - 1,by omega⟩
     have:=tenP_below X j 1000000 hl (h4 j (by omega))
     rw [hj,Nat.pow_succ]
     omega
   have hL20 : us.length ≤ 20:=by
    rcases Nat.lt_or_ge 20 us.length with h | h
    ·have : 2 ^ 21 ≤ 2 ^ us.length:=Nat.pow_le_pow_right (by omega) h
     omega
    ·exact h
   have:=appendLong_all us.length hL20 W.heap.size W vo us (.slice none 0 0) [] v X 0 W rfl (powers_of h1 h2) rfl (But.refl [] W).below (hv.but_nil h3) h5 (.inl ⟨rfl,hp⟩) hl (by simp only [List.length_nil]; omega) (World.ownsRow_nil _ _ _ _) (.inl rfl) h2
   rw [wdig_zero] at this
   refine this.mono fun e w' ⟨v',e1,e2,e3,_⟩ => ⟨v',e1,by simpa using e2,But.of_below e3⟩
  have hrl : 0 < (rdig X).reverse.length:=by rw [List.length_reverse,rdig_pos hp]; simp
  have HRR:=hide (rdig_rev X hp)
  have hrb : (rdig X).reverse.length ≤ 20000000:=by rw [List.length_reverse]; omega
  obtain ⟨xa,xc,rfl,-,-⟩:=hv
  clear htab hu hl hdl
  generalize (wd 18446744073709551616 X).length = n at *
  go_enter Tryz.func49,Tryz.ntmps49
  go_wp2_with fail
  refine (unhide HW).mono ?_
  rintro e w1 ⟨rfl,hw⟩
  obtain rfl:=hw.symm
  clear hw
  go_wp2_with fail
  refine (unhide PF).mono ?_
  rintro e w1 ⟨vo,us,rfl,h1,h2,h3,h4,h5⟩
  have B1:=hide h3
  have A1:=hide (unhide AL vo us w1 h1 h2 h3 h4 h5)
  clear h1 h2 h3 h4 h5 AL PF
  go_wp2_with fail
  refine (unhide A1).mono ?_
  rintro e w2 ⟨v2,rfl,ho2,hb2⟩
  have hB2 : But [] w w2:=(unhide B1).trans' hb2
  obtain ⟨g,cg,rfl,hg,hcg,hrow⟩:=owns_row ho2 hrl
  have hcv:=run_convert_bytes_back (P:=Tryz.prog) w2 113 9 5 ⟨g,0,none⟩ cg (rdig X).reverse Tryz.underlying113 Tryz.underlying5 Tryz.underlying9 (fun j hj => row_news hrow j _ (by rw [List.getElem?_map,List.getElem?_eq_getElem hj]; rfl))
  rw [unhide HRR,← unhide ht] at hcv
  rw [unhide HRR]
  have HB2:=hide hB2
  clear ho2 hb2 hrow hB2 hrl
  generalize (Lib.decDigits X).length = m at *
  go_wp2
  go_ret
  exact ⟨rfl,unhide HB2⟩
end Go.Proofs.YtndcigdphgojpaaGreatDoor

namespace Go.Proofs.YtndcigdphgojpaaGreatDoor
open Go.RowKit

/-- a fraction's text -/
def fracTxt (s : Bool) (p q : Nat) : ByteArray:=(if s then ⟨#[45]⟩ ++ ⟨(Lib.decDigits p).toArray⟩ else ⟨(Lib.decDigits p).toArray⟩) ++ (if q = 1 then ⟨#[]⟩ else ⟨#[47]⟩ ++ ⟨(Lib.decDigits q).toArray⟩)
theorem dec_short (u : Nat) (h : (wd 18446744073709551616 u).length ≤ 1000000) : (Lib.decDigits u).length ≤ 20000000:=by
 rcases Nat.eq_zero_or_pos u with rfl | h0
 ·rw [Lib.decDigits_length,Lib.nDigits_small (by omega)]; omega
 ·rw [← rdig_rev u h0,List.length_reverse]; exact dig_len u 1000000 h
theorem ba_nil (t : ByteArray) : t ++ ⟨#[]⟩ = t:=by
 cases t; simp [ByteArray.ext_iff]

set_option maxHeartbeats 4000000 in
set_option maxRecDepth 100000 in
theorem fracText_len (v : Value) (f : Rat) (w : World) (hf : FracAt w v f) (hL : Len f 1000000) (htab : Lib.TabIs Tryz.prog w "internal/strconv.uint64pow10" .u64 Lib.pow10Tab) (t : ByteArray) (ht : Hid (t = fracTxt (decide (f.num < 0)) f.num.natAbs f.den)) :
  Calls Tryz.prog 25 #[v] w fun e w' => e = .returned (.string t)∧But [] w w':=by
 have hq0:=den_pos f
 obtain ⟨hN,hD⟩:=hL
 obtain ⟨tp,htp⟩ : ∃ tp : ByteArray,tp = ⟨(Lib.decDigits f.num.natAbs).toArray⟩:=⟨_,rfl⟩
 obtain ⟨tq,htq⟩ : ∃ tq : ByteArray,tq = ⟨(Lib.decDigits f.den).toArray⟩:=⟨_,rfl⟩
 have sp : tp.size ≤ 20000000:=by rw [htp]; exact dec_short _ hN
 have sq : tq.size ≤ 20000000:=by rw [htq]; exact dec_short _ hD
 have HNU : Hid (∀ W,But [] w W→Calls Tryz.prog 27 #[v] W fun e w' => ∃ v1 v2,e = .returned (.tuple #[v1,v2])∧Sl .u64 w' v1 (wd 18446744073709551616 f.num.natAbs)∧Sl .u64 w' v2 (wd 18446744073709551616 f.den)∧But [] W w'):=fun W hb => numbers_any v f W (hf.but hb)
 have T1 : Hid (∀ W v1,But [] w W→Sl .u64 W v1 (wd 18446744073709551616 f.num.natAbs)→Calls Tryz.prog 49 #[v1] W fun e w' => e = .returned (.string tp)∧But [] W w'):=fun W v1 hb h => natText_all v1 _ W h hN (TabIs.but htab hb) tp htp
 have T2 : Hid (∀ W v1,But [] w W→Sl .u64 W v1 (wd 18446744073709551616 f.den)→Calls Tryz.prog 49 #[v1] W fun e w' => e = .returned (.string tq)∧But [] W w'):=fun W v1 hb h => natText_all v1 _ W h hD (TabIs.but htab hb) tq htq
 have HT : Hid (t = (if decide (f.num < 0) then ⟨#[45]⟩ ++ tp else tp) ++ (if f.den = 1 then ⟨#[]⟩ else ⟨#[47]⟩ ++ tq)):=by show _ = _; rw [unhide ht,fracTxt,htp,htq]
 have ONE : Hid (∀ W v1 (r : Bool),Hid (r = decide (f.den = 1))→Sl .u64 W v1 (wd 18446744073709551616 f.den)→Calls Tryz.prog 50 #[v1] W fun e w' => e = .returned (.bool r)∧w' = W):=fun W v1 r hr h => natOne_any v1 _ W h (by omega) r hr
 obtain ⟨x,y,p,rfl,-⟩:=hf.agg
 have hbw : But [] w (w.alloc (.cells #[.bool (decide (f.num < 0)),.int .u64 x,.int .u64 y,.pointer p] 36)):=(But.refl _ _).alloc _
 clear htp htq ht htab hN hD hf
 generalize hs : decide (f.num < 0) = s at *
 clear hs
 go_enter Tryz.func25,Tryz.ntmps25
 go_wp2_with fail
 refine (unhide HNU _ hbw).mono ?_
 rintro e w1 ⟨v1,v2,rfl,hv1,hv2,hb1⟩
 have B1:=hide (hbw.trans' hb1)
 have HV1:=hide hv1
 have HV2:=hide hv2
 have c0:=hb1.cell_some (show (w.alloc (.cells #[.bool s,.int .u64 x,.int .u64 y,.pointer p] 36)).cell? ⟨w.heap.size,0,none⟩ = some (.bool s) by simp) (by simp)
 clear hv1 hv2 hb1
 go_wp2_with fail
 refine (unhide T1 _ v1 (unhide B1) (unhide HV1)).mono ?_
 rintro e w2 ⟨rfl,hb2⟩
 have d0:=hb2.cell_some c0 (by simp)
 have B2 : Hid (But [] w w2):=(unhide B1).trans' hb2
 have HV3:=hide ((unhide HV2).but_nil hb2)
 clear hb2 c0 HV2 hbw
 cases s
 all_goals
  go_wp2_with fail
  by_cases hq1 : f.den = 1
  ·refine (unhide ONE _ v2 true (by show true = _; simp [hq1]) (unhide HV3)).mono ?_
   rintro e w3 ⟨rfl,hw⟩
   obtain rfl:=hw.symm
   clear hw
   go_wp2
   go_ret
   exact ⟨by rw [unhide HT,if_pos hq1,ba_nil]; rfl,unhide B2⟩
  ·refine (unhide ONE _ v2 false (by show false = _; simp [hq1]) (unhide HV3)).mono ?_
   rintro e w3 ⟨rfl,hw⟩
   obtain rfl:=hw.symm
   clear hw
   go_wp2_with fail
   refine (unhide T2 _ v2 (unhide B2) (unhide HV3)).mono ?_
   rintro e w3 ⟨rfl,hb3⟩
   go_wp2
   go_ret
   exact ⟨by rw [unhide HT,if_neg hq1]; rfl,(unhide B2).trans' hb3⟩
end Go.Proofs.YtndcigdphgojpaaGreatDoor

namespace Go.Proofs
open Go.Shelf Go.RowKit
set_option linter.unusedVariables false
def Tryz.lays172_ren : Go.Shelf.Ren := ⟨fun | 129 => 132 | 171 => 19 | 172 => 39 | 205 => 139 | 243 => 44 | 244 => 71 | 245 => 72 | 246 => 81 | 247 => 109 | 279 => 110 | 280 => 111 | 281 => 112 | 282 => 113 | 283 => 120 | 284 => 121 | 285 => 122 | 286 => 123 | 287 => 138 | 316 => 65 | 317 => 142 | 318 => 143 | 319 => 144 | 320 => 145 | 321 => 154 | 322 => 155 | 337 => 157 | 338 => 158 | n => n, fun | 0 => 0 | 2 => 2 | 3 => 3 | 4 => 4 | 5 => 5 | 9 => 9 | 20 => 20 | 21 => 21 | 37 => 113 | 46 => 63 | 51 => 200 | 53 => 33 | 80 => 31 | 75 => 28 | 76 => 87 | 85 => 170 | 127 => 154 | 143 => 209 | 145 => 211 | 167 => 169 | 168 => 172 | 171 => 181 | 173 => 183 | 175 => 191 | 210 => 194 | 212 => 199 | 213 => 201 | 232 => 213 | 233 => 214 | n => n, fun | 15 => 3 | 16 => 4 | 17 => 5 | 18 => 7 | 19 => 8 | n => n⟩
theorem Tryz.lays172 : Go.Proofs.Lays.n172 Tryz.prog Tryz.lays172_ren := {
  mixed := by kernel_rfl
  f129 := Tryz.func132.trans (congrArg some (by kernel_rfl))
  f171 := Tryz.func19.trans (congrArg some (by kernel_rfl))
  f172 := Tryz.func39.trans (congrArg some (by kernel_rfl))
  f205 := Tryz.func139.trans (congrArg some (by kernel_rfl))
  f243 := Tryz.func44.trans (congrArg some (by kernel_rfl))
  f244 := Tryz.func71.trans (congrArg some (by kernel_rfl))
  f245 := Tryz.func72.trans (congrArg some (by kernel_rfl))
  f246 := Tryz.func81.trans (congrArg some (by kernel_rfl))
  f247 := Tryz.func109.trans (congrArg some (by kernel_rfl))
  f279 := Tryz.func110.trans (congrArg some (by kernel_rfl))
  f280 := Tryz.func111.trans (congrArg some (by kernel_rfl))
  f281 := Tryz.func112.trans (congrArg some (by kernel_rfl))
  f282 := Tryz.func113.trans (congrArg some (by kernel_rfl))
  f283 := Tryz.func120.trans (congrArg some (by kernel_rfl))
  f284 := Tryz.func121.trans (congrArg some (by kernel_rfl))
  f285 := Tryz.func122.trans (congrArg some (by kernel_rfl))
  f286 := Tryz.func123.trans (congrArg some (by kernel_rfl))
  f287 := Tryz.func138.trans (congrArg some (by kernel_rfl))
  f316 := Tryz.func65.trans (congrArg some (by kernel_rfl))
  f317 := Tryz.func142.trans (congrArg some (by kernel_rfl))
  f318 := Tryz.func143.trans (congrArg some (by kernel_rfl))
  f319 := Tryz.func144.trans (congrArg some (by kernel_rfl))
  f320 := Tryz.func145.trans (congrArg some (by kernel_rfl))
  f321 := Tryz.func154.trans (congrArg some (by kernel_rfl))
  f322 := Tryz.func155.trans (congrArg some (by kernel_rfl))
  f337 := Tryz.func157.trans (congrArg some (by kernel_rfl))
  f338 := Tryz.func158.trans (congrArg some (by kernel_rfl))
  t0 := Tryz.underlying0
  a0 := Tryz.isAgg0
  z0 := Tryz.sizeOf0
  v0 := Tryz.zeroValue0
  t2 := Tryz.underlying2
  a2 := Tryz.isAgg2
  z2 := Tryz.sizeOf2
  v2 := Tryz.zeroValue2
  t3 := Tryz.underlying3
  a3 := Tryz.isAgg3
  z3 := Tryz.sizeOf3
  v3 := Tryz.zeroValue3
  t4 := Tryz.underlying4
  a4 := Tryz.isAgg4
  z4 := Tryz.sizeOf4
  v4 := Tryz.zeroValue4
  t5 := Tryz.underlying5
  a5 := Tryz.isAgg5
  z5 := Tryz.sizeOf5
  v5 := Tryz.zeroValue5
  t9 := Tryz.underlying9
  a9 := Tryz.isAgg9
  z9 := Tryz.sizeOf9
  v9 := Tryz.zeroValue9
  t20 := Tryz.underlying20
  a20 := Tryz.isAgg20
  z20 := Tryz.sizeOf20
  v20 := Tryz.zeroValue20
  t21 := Tryz.underlying21
  a21 := Tryz.isAgg21
  z21 := Tryz.sizeOf21
  v21 := Tryz.zeroValue21
  t37 := Tryz.underlying113
  a37 := Tryz.isAgg113
  z37 := Tryz.sizeOf113
  v37 := Tryz.zeroValue113
  t46 := Tryz.underlying63
  a46 := Tryz.isAgg63
  z46 := Tryz.sizeOf63
  v46 := Tryz.zeroValue63
  t51 := Tryz.underlying200
  a51 := Tryz.isAgg200
  z51 := Tryz.sizeOf200
  v51 := Tryz.zeroValue200
  t53 := Tryz.underlying33
  a53 := Tryz.isAgg33
  z53 := Tryz.sizeOf33
  v53 := Tryz.zeroValue33
  t75 := Tryz.underlying28
  a75 := Tryz.isAgg28
  z75 := Tryz.sizeOf28
  v75 := Tryz.zeroValue28
  t76 := Tryz.underlying87
  a76 := Tryz.isAgg87
  z76 := Tryz.sizeOf87
  v76 := Tryz.zeroValue87
  t85 := Tryz.underlying170
  a85 := Tryz.isAgg170
  z85 := Tryz.sizeOf170
  v85 := Tryz.zeroValue170
  t127 := Tryz.underlying154
  a127 := Tryz.isAgg154
  z127 := Tryz.sizeOf154
  v127 := Tryz.zeroValue154
  t143 := Tryz.underlying209
  a143 := Tryz.isAgg209
  z143 := Tryz.sizeOf209
  v143 := Tryz.zeroValue209
  t145 := Tryz.underlying211
  a145 := Tryz.isAgg211
  z145 := Tryz.sizeOf211
  v145 := Tryz.zeroValue211
  t167 := Tryz.underlying169
  a167 := Tryz.isAgg169
  z167 := Tryz.sizeOf169
  v167 := Tryz.zeroValue169
  t168 := Tryz.underlying172
  a168 := Tryz.isAgg172
  z168 := Tryz.sizeOf172
  v168 := Tryz.zeroValue172
  t171 := Tryz.underlying181
  a171 := Tryz.isAgg181
  z171 := Tryz.sizeOf181
  v171 := Tryz.zeroValue181
  t173 := Tryz.underlying183
  a173 := Tryz.isAgg183
  z173 := Tryz.sizeOf183
  v173 := Tryz.zeroValue183
  t175 := Tryz.underlying191
  a175 := Tryz.isAgg191
  z175 := Tryz.sizeOf191
  v175 := Tryz.zeroValue191
  t210 := Tryz.underlying194
  a210 := Tryz.isAgg194
  z210 := Tryz.sizeOf194
  v210 := Tryz.zeroValue194
  t212 := Tryz.underlying199
  a212 := Tryz.isAgg199
  z212 := Tryz.sizeOf199
  v212 := Tryz.zeroValue199
  t213 := Tryz.underlying201
  a213 := Tryz.isAgg201
  z213 := Tryz.sizeOf201
  t232 := Tryz.underlying213
  a232 := Tryz.isAgg213
  z232 := Tryz.sizeOf213
  v232 := Tryz.zeroValue213
  t233 := Tryz.underlying214
  a233 := Tryz.isAgg214
  z233 := Tryz.sizeOf214
  v233 := Tryz.zeroValue214
  g15 := by kernel_rfl
  g16 := by kernel_rfl
  g17 := by kernel_rfl
  g18 := by kernel_rfl
  g19 := by kernel_rfl }
def Tryz.laysM171_ren : Go.Shelf.Ren := ⟨fun | 129 => 132 | 171 => 19 | 243 => 44 | 246 => 81 | 283 => 120 | 284 => 121 | 285 => 122 | 286 => 123 | 317 => 142 | 318 => 143 | 319 => 144 | 320 => 145 | 337 => 157 | 338 => 158 | n => n, fun | 0 => 0 | 2 => 2 | 3 => 3 | 4 => 4 | 5 => 5 | 9 => 9 | 20 => 20 | 37 => 113 | 46 => 63 | 51 => 200 | 53 => 33 | 171 => 181 | 173 => 183 | 212 => 199 | 213 => 201 | 232 => 213 | 233 => 214 | n => n, fun | 17 => 5 | 18 => 7 | 19 => 8 | n => n⟩
theorem Tryz.laysM171 : Go.Proofs.LaysM.n171 Tryz.prog Tryz.laysM171_ren := {
  mixed := by kernel_rfl
  f129 := Tryz.func132.trans (congrArg some (by kernel_rfl))
  f171 := Tryz.func19.trans (congrArg some (by kernel_rfl))
  f243 := Tryz.func44.trans (congrArg some (by kernel_rfl))
  f246 := Tryz.func81.trans (congrArg some (by kernel_rfl))
  f283 := Tryz.func120.trans (congrArg some (by kernel_rfl))
  f284 := Tryz.func121.trans (congrArg some (by kernel_rfl))
  f285 := Tryz.func122.trans (congrArg some (by kernel_rfl))
  f286 := Tryz.func123.trans (congrArg some (by kernel_rfl))
  f317 := Tryz.func142.trans (congrArg some (by kernel_rfl))
  f318 := Tryz.func143.trans (congrArg some (by kernel_rfl))
  f319 := Tryz.func144.trans (congrArg some (by kernel_rfl))
  f320 := Tryz.func145.trans (congrArg some (by kernel_rfl))
  f337 := Tryz.func157.trans (congrArg some (by kernel_rfl))
  f338 := Tryz.func158.trans (congrArg some (by kernel_rfl))
  t0 := Tryz.underlying0
  a0 := Tryz.isAgg0
  z0 := Tryz.sizeOf0
  v0 := Tryz.zeroValue0
  t2 := Tryz.underlying2
  a2 := Tryz.isAgg2
  z2 := Tryz.sizeOf2
  v2 := Tryz.zeroValue2
  t3 := Tryz.underlying3
  a3 := Tryz.isAgg3
  z3 := Tryz.sizeOf3
  v3 := Tryz.zeroValue3
  t4 := Tryz.underlying4
  a4 := Tryz.isAgg4
  z4 := Tryz.sizeOf4
  v4 := Tryz.zeroValue4
  t5 := Tryz.underlying5
  a5 := Tryz.isAgg5
  z5 := Tryz.sizeOf5
  v5 := Tryz.zeroValue5
  t9 := Tryz.underlying9
  a9 := Tryz.isAgg9
  z9 := Tryz.sizeOf9
  v9 := Tryz.zeroValue9
  t20 := Tryz.underlying20
  a20 := Tryz.isAgg20
  z20 := Tryz.sizeOf20
  v20 := Tryz.zeroValue20
  t37 := Tryz.underlying113
  a37 := Tryz.isAgg113
  z37 := Tryz.sizeOf113
  v37 := Tryz.zeroValue113
  t46 := Tryz.underlying63
  a46 := Tryz.isAgg63
  z46 := Tryz.sizeOf63
  v46 := Tryz.zeroValue63
  t51 := Tryz.underlying200
  a51 := Tryz.isAgg200
  z51 := Tryz.sizeOf200
  v51 := Tryz.zeroValue200
  t53 := Tryz.underlying33
  a53 := Tryz.isAgg33
  z53 := Tryz.sizeOf33
  v53 := Tryz.zeroValue33
  t171 := Tryz.underlying181
  a171 := Tryz.isAgg181
  z171 := Tryz.sizeOf181
  v171 := Tryz.zeroValue181
  t173 := Tryz.underlying183
  a173 := Tryz.isAgg183
  z173 := Tryz.sizeOf183
  v173 := Tryz.zeroValue183
  t212 := Tryz.underlying199
  a212 := Tryz.isAgg199
  z212 := Tryz.sizeOf199
  v212 := Tryz.zeroValue199
  t213 := Tryz.underlying201
  a213 := Tryz.isAgg201
  z213 := Tryz.sizeOf201
  t232 := Tryz.underlying213
  a232 := Tryz.isAgg213
  z232 := Tryz.sizeOf213
  v232 := Tryz.zeroValue213
  t233 := Tryz.underlying214
  a233 := Tryz.isAgg214
  z233 := Tryz.sizeOf214
  v233 := Tryz.zeroValue214
  g17 := by kernel_rfl
  m17 := by kernel_rfl
  g18 := by kernel_rfl
  m18 := by kernel_rfl
  g19 := by kernel_rfl
  m19 := by kernel_rfl
  i0 := by kernel_rfl
  i2 := by kernel_rfl
  i3 := by kernel_rfl
  i4 := by kernel_rfl
  i5 := by kernel_rfl
  i9 := by kernel_rfl
  i20 := by kernel_rfl
  i37 := by kernel_rfl
  i46 := by kernel_rfl
  i51 := by kernel_rfl
  i53 := by kernel_rfl
  i171 := by kernel_rfl
  i173 := by kernel_rfl
  i212 := by kernel_rfl
  i232 := by kernel_rfl
  i233 := by kernel_rfl }
end Go.Proofs

namespace Go.Proofs.YtndcigdphgojpaaGreatDoor
open Go.RowKit Go.Shelf
set_option linter.unusedVariables false

theorem but_bytesT (w : World) (e : TypeId) (s : ByteArray) : But [] w (Lib.bytesWorld w e s) :=
 ⟨rfl,rfl,rfl,by rw [Lib.bytesWorld_size]; omega,fun k hk _ => Lib.bytesWorld_at_old w e s k hk⟩
theorem but_growT (w : World) (k : Nat) (os : Array Obj) : But [] w (Sort.grow (w.drewN k) os) :=
 ⟨rfl,rfl,rfl,by simp [Sort.grow],fun j hj _ => by simp [Sort.grow]; exact Array.getElem?_append_left hj⟩
theorem digit_val (d : Nat) (h : d < 10) : Lib.digitVal (UInt8.ofNat (48 + d)) = some d:=by
 unfold Lib.digitVal
 have e : (UInt8.ofNat (48 + d)).toNat = 48 + d:=by simp; omega
 rw [e,if_pos (by omega)]
 congr 1
 omega
theorem decFrom_snoc : ∀ (l : List UInt8) (acc n d : Nat),Lib.decFrom acc l = some n→d < 10→Lib.decFrom acc (l ++ [UInt8.ofNat (48 + d)]) = some (n * 10 + d)
 | [],acc,n,d,h,hd => by
  simp only [Lib.decFrom,Option.some.injEq] at h
  subst h
  simp only [List.nil_append,Lib.decFrom,digit_val d hd]
 | b :: l,acc,n,d,h,hd => by
  simp only [List.cons_append,Lib.decFrom] at h ⊢
  cases e : Lib.digitVal b with
  | none => rw [e] at h; simp at h
  | some x =>
   rw [e] at h
   exact decFrom_snoc l _ n d h hd
theorem decFrom_digits (u : Nat) : Lib.decFrom 0 (Lib.decDigits u) = some u:=by
 induction u using Nat.strongRecOn with
 | _ u ih =>
  rw [Lib.decDigits]
  by_cases h : u < 10
  ·rw [dif_pos h]
   simp only [Lib.decFrom,digit_val u h]
   congr 1
   omega
  ·rw [dif_neg h,decFrom_snoc _ 0 (u / 10) (u % 10) (ih _ (by omega)) (by omega)]
   congr 1
   omega
theorem digits_ne (u : Nat) : Lib.decDigits u ≠ []:=by
 rw [Lib.decDigits]
 split <;> simp
theorem digits_are (u : Nat) : ∀ b ∈ Lib.decDigits u,48 ≤ b.toNat∧b.toNat ≤ 57:=by
 induction u using Nat.strongRecOn with
 | _ u ih =>
  intro b hb
  rw [Lib.decDigits] at hb
  by_cases h : u < 10
  ·rw [dif_pos h] at hb
   simp only [List.mem_cons,List.not_mem_nil,or_false] at hb
   subst hb
   have e : (UInt8.ofNat (48 + u)).toNat = 48 + u:=by simp; omega
   omega
  ·rw [dif_neg h] at hb
   rcases List.mem_append.1 hb with hb | hb
   ·exact ih _ (by omega) b hb
   ·simp only [List.mem_cons,List.not_mem_nil,or_false] at hb
    subst hb
    have e : (UInt8.ofNat (48 + u % 10)).toNat = 48 + u % 10:=by simp; omega
    omega
theorem digits_len : ∀ (k u : Nat),u < 10 ^ (k + 1)→(Lib.decDigits u).length ≤ k + 1
 | 0,u,h => by
  rw [Lib.decDigits,dif_pos (by omega)]
  simp
 | k + 1,u,h => by
  rw [Lib.decDigits]
  split
  ·simp
  ·rw [List.length_append]
   have:=digits_len k (u / 10) (by rw [Nat.pow_succ] at h; omega)
   simp
   omega
theorem itoa_of (z : Int) (h : 0 ≤ z) : Lib.itoa z = Lib.decDigits z.toNat:=by unfold Lib.itoa; rw [if_neg (by omega)]
theorem atoi_of (z : Int) (h : 0 ≤ z) : Lib.atoi (Lib.itoa z) = some z:=by
 rw [itoa_of z h]
 have h1:=digits_ne z.toNat
 have h2:=digits_are z.toNat
 have h3:=decFrom_digits z.toNat
 cases e : Lib.decDigits z.toNat with
 | nil => exact absurd e h1
 | cons b l =>
  rw [e] at h2 h3
  have hb:=h2 b (by simp)
  have n45 : (b == 45) = false:=by
   rw [beq_eq_false_iff_ne]
   rintro rfl
   simp at hb
  have n43 : (b == 43) = false:=by
   rw [beq_eq_false_iff_ne]
   rintro rfl
   simp at hb
  simp only [Lib.atoi,n45,n43,Lib.decNat,List.isEmpty_cons,h3]
  simp
  omega
set_option maxHeartbeats 4000000 in
set_option maxRecDepth 100000 in
theorem number_any (z : Int) (h0 : 0 ≤ z) (h1 : z ≤ 1000000000000000) (w : World) (htab : Lib.TabIs Tryz.prog w "internal/strconv.uint64pow10" .u64 Lib.pow10Tab) (t : ByteArray) (ht : t = ⟨(Lib.itoa z).toArray⟩) :
  Calls Tryz.prog 16 #[.string t] w fun e w' => e = .returned (.tuple #[.int .i64 z,.bool true])∧But [] w w':=by
 have hsz : t.size ≤ 18:=by
  rw [ht,itoa_of z h0]
  have:=digits_len 15 z.toNat (by omega)
  show (Lib.decDigits z.toNat).toArray.size ≤ 18
  simp
  omega
 have hat : Lib.atoi t.data.toList = some z:=by rw [ht]; exact atoi_of z h0
 have AT : Hid (Calls Tryz.prog 39 #[.string t] w fun e w' => e = .returned (.tuple #[.int .i64 z,.nilIface])∧But [] w w') :=
  (Any.strconv_Atoi Tryz.lays172 t z hsz hat w).mono (by rintro e w' ⟨rfl,tt,rfl⟩; exact ⟨rfl,but_bytesT _ _ _⟩)
 have IT : Hid (∀ W,But [] w W→Calls Tryz.prog 19 #[.int .i64 z] W fun e w' => e = .returned (.string t)∧But [] W w'):=fun W hW => by
  have h:=Any.strconv_Itoa Tryz.laysM171 z (by omega) (by omega) W (TabIs.but htab hW)
  rw [← ht] at h
  exact h.mono (by rintro e w' ⟨rfl,k,os,rfl⟩; exact ⟨rfl,but_growT _ _ _⟩)
 clear htab hat hsz ht
 go_enter Tryz.func16,Tryz.ntmps16
 go_wp2_with fail
 refine (unhide AT).mono ?_
 rintro e w1 ⟨rfl,hb1⟩
 have B1:=hide hb1
 clear hb1 AT
 go_wp2_with fail
 refine (unhide IT _ (unhide B1)).mono ?_
 rintro e w2 ⟨rfl,hb2⟩
 have B2:=hide ((unhide B1).trans' hb2)
 clear hb2
 go_wp2
 exact bodyPost_ret (v:=.tuple #[.int .i64 z,.bool true]) (by simp [results,Tryz.results16,go_sem]) rfl ⟨rfl,unhide B2⟩
end Go.Proofs.YtndcigdphgojpaaGreatDoor

namespace Go.Proofs.YtndcigdphgojpaaGreatDoor
open Go.RowKit Go.Shelf
set_option linter.unusedVariables false
attribute [local go_sem] Oper.semAt_some

/-- words with one sign between -/
def jn (d : UInt8) : List (List UInt8)→List UInt8
 | [] => []
 | [x] => x
 | x :: y :: l => x ++ d :: jn d (y :: l)
/-- what stands behind a word -/
def tlw (d : UInt8) (l : List (List UInt8)) : List UInt8:=match l with
 | [] => []
 | y :: l => d :: jn d (y :: l)
theorem jn_cons (d : UInt8) (x : List UInt8) (l : List (List UInt8)) : jn d (x :: l) = x ++ tlw d l:=by
 cases l with
 | nil => simp [jn,tlw]
 | cons y l => rfl
/-- what is left ahead of the k-th word -/
def tailK (d : UInt8) (ws : List (List UInt8)) (k : Nat) : List UInt8:=if k = 0 then jn d ws else tlw d (ws.drop k)
theorem drop_cons {α : Type} (l : List α) (k : Nat) (h : k < l.length) : l.drop k = l[k] :: l.drop (k + 1):=List.drop_eq_getElem_cons h
theorem jn_drop (d : UInt8) (ws : List (List UInt8)) (k : Nat) (h : k < ws.length) : jn d (ws.drop k) = ws[k] ++ tailK d ws (k + 1):=by
 rw [drop_cons ws k h,jn_cons]
 unfold tailK
 rw [if_neg (by omega)]
theorem tail_trim (d : UInt8) (ws : List (List UInt8)) (k : Nat) (h : k < ws.length) : tailK d ws k = jn d (ws.drop k) ∨ tailK d ws k = d :: jn d (ws.drop k):=by
 unfold tailK
 by_cases h0 : k = 0
 ·subst h0; left; simp
 ·right
  rw [if_neg h0,drop_cons ws k h]
  rfl
theorem tail_end (d : UInt8) (ws : List (List UInt8)) : tailK d ws ws.length = []:=by
 unfold tailK
 cases ws with
 | nil => rfl
 | cons x l => rw [if_neg (by simp)]; simp [tlw]
theorem tail_suffix (d : UInt8) (ws : List (List UInt8)) : ∀ k,k ≤ ws.length→∃ p,jn d ws = p ++ tailK d ws k
 | 0,_ => ⟨[],rfl⟩
 | k + 1,h => by
  obtain ⟨p,hp⟩:=tail_suffix d ws k (by omega)
  have hd:=jn_drop d ws k (by omega)
  rcases tail_trim d ws k (by omega) with e | e
  ·exact ⟨p ++ ws[k],by rw [hp,e,hd,List.append_assoc]⟩
  ·exact ⟨p ++ d :: ws[k],by rw [hp,e,hd,List.append_assoc]; rfl⟩
/-- where the k-th word begins -/
def posW (d : UInt8) (ws : List (List UInt8)) (k : Nat) : Nat:=(jn d ws).length - (jn d (ws.drop k)).length
end Go.Proofs.YtndcigdphgojpaaGreatDoor

namespace Go.Proofs.YtndcigdphgojpaaGreatDoor
open Go.RowKit Go.Shelf
set_option linter.unusedVariables false

/-- a fraction's text -/
def fracT (f : Rat) : List UInt8:=(fracTxt (decide (f.num < 0)) f.num.natAbs f.den).data.toList
/-- a word: not empty, without blanks and line feeds, short -/
def WordOk (x : List UInt8) : Prop:=(x ≠ []∧(32 : UInt8) ∉ x∧(10 : UInt8) ∉ x)∧x.length ≤ 60
theorem fracT_is (f : Rat) : fracT f = (if f.num < 0 then 45 :: Lib.decDigits f.num.natAbs else Lib.decDigits f.num.natAbs) ++ (if f.den = 1 then [] else 47 :: Lib.decDigits f.den):=by
 unfold fracT fracTxt
 by_cases h1 : f.num < 0 <;> by_cases h2 : f.den = 1 <;> simp [h1,h2]
theorem fracT_ok (f : Rat) (hN : f.num.natAbs < 18446744073709551616) (hD : f.den < 18446744073709551616) : WordOk (fracT f):=by
 have d1:=digits_len 19 f.num.natAbs (by omega)
 have d2:=digits_len 19 f.den (by omega)
 have n1:=digits_ne f.num.natAbs
 have nB : ∀ (u : UInt8) n,u ∈ Lib.decDigits n→48 ≤ u.toNat∧u.toNat ≤ 57:=fun u n h => digits_are n u h
 have k : ∀ u : UInt8,(u = 32 ∨ u = 10)→u ∉ fracT f:=fun u hu hm => by
  rw [fracT_is] at hm
  have a1 : u ∉ Lib.decDigits f.num.natAbs:=fun h => by have:=nB u _ h; rcases hu with rfl | rfl <;> simp at this
  have a2 : u ∉ Lib.decDigits f.den:=fun h => by have:=nB u _ h; rcases hu with rfl | rfl <;> simp at this
  rcases List.mem_append.1 hm with h | h
  ·split at h
   ·rcases List.mem_cons.1 h with h | h
    ·subst h; simp at hu
    ·exact a1 h
   ·exact a1 h
  ·split at h
   ·simp at h
   ·rcases List.mem_cons.1 h with h | h
    ·subst h; simp at hu
    ·exact a2 h
 refine ⟨⟨?_,k 32 (.inl rfl),k 10 (.inr rfl)⟩,?_⟩
 ·rw [fracT_is]
  intro h
  have:=(List.append_eq_nil_iff.1 h).1
  split at this
  ·simp at this
  ·exact n1 this
 ·rw [fracT_is,List.length_append]
  split <;> split <;> simp only [List.length_cons,List.length_nil] <;> omega
theorem jn_short (d : UInt8) (m : Nat) : ∀ xs : List (List UInt8),(∀ x ∈ xs,x.length ≤ m)→(jn d xs).length ≤ xs.length * (m + 1)
 | [],_ => by simp [jn]
 | [x],h => by
  have:=h x (by simp)
  simp only [jn,List.length_cons,List.length_nil]
  omega
 | x :: y :: l,h => by
  have h1:=h x (by simp)
  have h2:=jn_short d m (y :: l) (fun z hz => h z (List.mem_cons_of_mem _ hz))
  simp only [jn,List.length_append,List.length_cons] at h2 ⊢
  rw [Nat.add_mul (l.length + 1) 1,Nat.one_mul]
  omega
end Go.Proofs.YtndcigdphgojpaaGreatDoor
