/- What is written of a table is read as the table, as the Go text of package table reads it. -/
import Derived.Test.YtndcigdphgojpaaGreatDoorKTCK
import Derived.Test.YtndcigdphgojpaaGreatDoorKTCM
import Derived.Test.YtndcigdphgojpaaGreatDoorKTD1
namespace Go.Proofs.YtndcigdphgojpaaGreatDoor
open Go.RowKit Go.Shelf
set_option linter.unusedVariables false

theorem PlacedAt.tail {w : World} {b off n c : Nat} {nu : List UInt8} {rs : List (List UInt8)} (h : PlacedAt w (.slice (some ⟨b,off,none⟩) n c) (wsT nu rs)) (hc : n ≤ c) : PlacedAt w (.slice (some ⟨b,off + 10,none⟩) rs.length (c - 5)) rs:=by
 have hl : n = rs.length + 5:=by
  obtain ⟨a,cap,e,-⟩:=h
  simp only [Value.slice.injEq] at e
  rw [e.2.1]
  simp [wsT]
 refine ⟨_,c - 5,rfl,by omega,fun i x hx => ?_⟩
 obtain ⟨b',off',p,e,h1,h2⟩:=h.at (i + 5) x (by simpa [wsT] using hx)
 simp only [Option.some.injEq,Addr.mk.injEq,and_true] at e
 obtain ⟨rfl,rfl⟩:=e
 refine ⟨b,off + 10,p,rfl,?_,?_⟩
 ·rw [show off + 10 + i * 2 = off + (i + 5) * 2 by omega]; exact h1
 ·rw [show off + 10 + i * 2 + 1 = off + (i + 5) * 2 + 1 by omega]; exact h2
set_option maxHeartbeats 16000000 in
set_option maxRecDepth 100000 in
theorem tableRead_any (z : Int) (fs : List Rat) (hok : TabOk z fs) (hn : fs.length ≤ 60) (lf : ∀ f ∈ fs,Len f 1) (t : ByteArray) (ht : t = ⟨(jn 32 (wsTab z fs)).toArray⟩) (w : World) (htab : Lib.TabIs Tryz.prog w "internal/strconv.uint64pow10" .u64 Lib.pow10Tab) :
  Calls Tryz.prog 5 #[.string t] w fun e w' => ∃ g,e = .returned (.tuple #[.pointer (some ⟨g,0,none⟩),.nilIface])∧TabAt w' g z fs∧But [] w w':=by
 obtain ⟨k0,k1,k2,-⟩:=id hok
 have hw:=wsTab_ok z fs k1 (by omega) lf
 have hs:=wsTab_short z fs k1 (by omega) lf hn
 have hwl:=wsTab_len z fs
 have CU:=hide (fun W => tableCut_any (wsTab z fs) (fun x hx => ⟨(hw x hx).1.1,fun b hb => ⟨fun e => (hw x hx).1.2.1 (e ▸ hb),fun e => (hw x hx).1.2.2 (e ▸ hb)⟩⟩) (by omega) (by omega) t (by rw [ht]) hs W)
 have HD:=hide (fun W q n c m (hb : n = (wsTab z fs).length) (hv : PlacedAt W (.slice q n c) (wsTab z fs)) => headed_any (Lib.itoa z) (fs.map fracT) q n c m W hb (by omega) hv)
 have NU:=hide (fun W (hb : But [] w W) => number_any z k1 (by omega) W (TabIs.but htab hb) ⟨(Lib.itoa z).toArray⟩ rfl)
 have FR:=hide (fun W q n c (hv : PlacedAt W (.slice q n c) (fs.map fracT)) (hN : n = fs.length) => fractions_any q n c fs W hv hN (by omega) lf)
 have NW:=hide (fun W v (hv : FracsAt W v fs) => tableNew_any z v fs W hv hn lf)
 have htz : t.size ≤ 50000:=by
  rw [ht]
  show (jn 32 (wsTab z fs)).toArray.size ≤ _
  simpa using hs
 have hts : (t.size : Int) ≤ 50000:=by omega
 have HOK:=hide hok
 obtain ⟨n,hN⟩ : ∃ n,n = fs.length:=⟨_,rfl⟩
 rw [← hN] at hn k0 hwl
 have HN:=hide hN
 have HWL:=hide hwl
 generalize hnu : (⟨(Lib.itoa z).toArray⟩ : ByteArray) = nu at NU
 have HNU:=hide hnu
 clear hw hs ht htab lf hok hwl hN hnu
 go_enter Tryz.func5,Tryz.ntmps5
 go_wp2_with fail
 refine (unhide CU _).mono ?_
 rintro e w1 ⟨v,rfl,hp,hb1⟩
 obtain ⟨a,cap,rfl,hcap,-⟩:=id hp
 rw [unhide HWL] at hp hcap ⊢
 have B1:=hide hb1
 have P1:=hide hp
 have HD1:=hide (unhide HD w1 a (n + 5) cap (t.size : Int) (unhide HWL).symm hp)
 obtain ⟨b,off,p1,rfl,e1,-⟩:=hp.at 1 [116] rfl
 obtain ⟨b',off',p3,q3,e3,-⟩:=hp.at 3 (Lib.itoa z) rfl
 obtain ⟨b4,off4,p4,q4,e4,-⟩:=hp.at 4 [114,97,116,101,115] rfl
 simp only [Option.some.injEq,Addr.mk.injEq,and_true] at q3 q4
 obtain ⟨rfl,rfl⟩:=q3
 obtain ⟨rfl,rfl⟩:=q4
 rw [unhide HNU] at e3
 have E1:=hide e1
 have E3:=hide e3
 have E4:=hide e4
 clear hb1 hp CU HD e1 e3 e4
 go_wp2_with fail
 refine (unhide HD1).mono ?_
 rintro e w2 ⟨rfl,hb2⟩
 have B2:=hide ((unhide B1).trans' hb2)
 have c3:=hb2.cell_some (unhide E3) (by simp)
 have E12:=hide (hb2.cell_some (unhide E1) (by simp))
 have E42:=hide (hb2.cell_some (unhide E4) (by simp))
 have P2:=hide ((unhide P1).but hb2)
 clear hb2 HD1 B1 E1 E3 E4 P1
 go_wp2_with fail
 refine (unhide NU _ (unhide B2)).mono ?_
 rintro e w3 ⟨rfl,hb3⟩
 have B3:=hide ((unhide B2).trans' hb3)
 have E13:=hide (hb3.cell_some (unhide E12) (by simp))
 have E43:=hide (hb3.cell_some (unhide E42) (by simp))
 have hp3:=((unhide P2).but hb3).tail hcap
 rw [List.length_map,← unhide HN] at hp3
 have FR1:=hide (unhide FR w3 _ n (cap - 5) hp3 (unhide HN))
 clear hb3 hp3 c3 E12 E42 P2 B2 NU FR
 go_wp2_with fail
 refine (unhide FR1).mono ?_
 rintro e w4 ⟨g4,rfl,hf4,hb4⟩
 have B4:=hide ((unhide B3).trans' hb4)
 have c1:=hb4.cell_some (unhide E13) (by simp)
 have c4:=hb4.cell_some (unhide E43) (by simp)
 have NW1:=hide (unhide NW w4 _ hf4)
 clear hb4 hf4 FR1 B3 E13 E43 NW
 go_wp2_with fail
 refine (unhide NW1).mono ?_
 rintro e w5 ⟨hb5,⟨hok,g,rfl,hT⟩ | ⟨hno,-⟩⟩
 ·have B5:=hide ((unhide B4).trans' hb5)
  have HT:=hide hT
  clear hb5 hT hok c1 c4 NW1 B4
  go_wp2
  exact bodyPost_ret (v:=.tuple #[.pointer (some ⟨g,0,none⟩),.nilIface]) (by simp [results,Tryz.results5,go_sem]) rfl ⟨g,rfl,unhide HT,unhide B5⟩
 ·exact absurd (unhide HOK) hno
end Go.Proofs.YtndcigdphgojpaaGreatDoor

namespace Go.Proofs.YtndcigdphgojpaaGreatDoor
open Go.RowKit Go.Shelf
set_option linter.unusedVariables false

set_option maxHeartbeats 4000000 in
theorem tellT_nil (w : World) : Calls Tryz.prog 13 #[.nilIface] w fun e w' => e = .returned (.int .i64 0)∧But [] w w':=by
 go_enter Tryz.func13,Tryz.ntmps13
 go_wp2
 go_ret
 exact ⟨rfl,But.refl _ _⟩
/-- the variable that errors.As reads -/
def ErrVar (w : World) : Prop:=w.cell? ⟨0,0,none⟩ = some (.iface 156 (.agg #[.pointer (some ⟨9,28,none⟩)]))
def PTabPost (z : Int) (fs : List Rat) (w : World) (e : Ending) (w' : World) : Prop:=But [] w w'∧((TabOk z fs∧∃ g,e = .returned (.tuple #[.pointer (some ⟨g,0,none⟩),.int .i64 0])∧TabAt w' g z fs) ∨ (¬ TabOk z fs∧∃ c,c ≠ 0∧e = .returned (.tuple #[.pointer none,.int .i64 c])))
theorem qs_len (qs : List (Int × Int)) (hf : ∀ q ∈ qs,Fits q) : ∀ f ∈ qs.map qf,Len f 1:=fun f hm => by
 obtain ⟨q,hq,rfl⟩:=List.mem_map.1 hm
 obtain ⟨_,_,_,h,-⟩:=plainF_at q (hf q hq)
 exact h
set_option maxHeartbeats 8000000 in
set_option maxRecDepth 100000 in
theorem plainTable_any (z : Int) (v : Value) (qs : List (Int × Int)) (w : World) (hq : QsAt w v qs) (hf : ∀ q ∈ qs,Fits q) (hn : qs.length ≤ 60) (hg : ErrVar w) :
  Calls Tryz.prog 4 #[.string ⟨#[116]⟩,.int .i64 z,v] w fun e w' => PTabPost z (qs.map qf) w e w':=by
 have FS:=hide (plainFs_any v qs w hq hf (by omega))
 have NW:=hide (fun W v (hv : FracsAt W v (qs.map qf)) => tableNew_any z v (qs.map qf) W hv (by simpa using hn) (qs_len qs hf))
 have TE:=hide (fun n W (hb : But [] w W) => tell_errno n W (hb.cell_some hg (by simp)))
 obtain ⟨a,cap,rfl,-,-⟩:=id hq
 clear hq hf hg
 go_enter Tryz.func4,Tryz.ntmps4
 go_wp2_with fail
 refine (unhide FS).mono ?_
 rintro e w1 ⟨v',vs,rfl,hh,hb1⟩
 have NW1:=hide (unhide NW w1 v' hh.fracs)
 have B1:=hide hb1
 obtain ⟨q1,c1,hv1⟩ : ∃ q c,v' = .slice q (qs.map qf).length c:=by obtain ⟨a,c,e,-⟩:=hh.fracs; exact ⟨a,c,e⟩
 subst hv1
 rw [List.length_map] at NW1 ⊢
 clear hh hb1 FS NW
 go_wp2_with fail
 refine (unhide NW1).mono ?_
 rintro e w2 ⟨hb2,⟨hok,g,rfl,hT⟩ | ⟨hno,c,hc0,-,-,rfl⟩⟩
 ·have B2:=hide ((unhide B1).trans' hb2)
  have HT:=hide hT
  have HOK:=hide hok
  clear hb2 hT hok NW1 B1 TE
  go_wp2_with fail
  refine (tellT_nil _).mono ?_
  rintro e w3 ⟨rfl,hb3⟩
  have B3:=hide ((unhide B2).trans' hb3)
  have HT3:=hide ((unhide HT).but hb3)
  clear hb3 HT B2
  go_wp2
  exact bodyPost_ret (v:=.tuple #[.pointer (some ⟨g,0,none⟩),.int .i64 0]) (by simp [results,Tryz.results4,go_sem]) rfl ⟨unhide B3,.inl ⟨unhide HOK,g,rfl,unhide HT3⟩⟩
 ·have B2:=hide ((unhide B1).trans' hb2)
  have HNO:=hide hno
  clear hb2 hno NW1 B1
  go_wp2_with fail
  refine (unhide TE c _ (unhide B2)).mono ?_
  rintro e w3 ⟨rfl,hb3⟩
  have B3:=hide ((unhide B2).trans' hb3)
  clear hb3 B2 TE
  go_wp2
  exact bodyPost_ret (v:=.tuple #[.pointer none,.int .i64 c]) (by simp [results,Tryz.results4,go_sem]) rfl ⟨unhide B3,.inr ⟨unhide HNO,c,hc0,rfl⟩⟩
end Go.Proofs.YtndcigdphgojpaaGreatDoor

namespace Go.Proofs.YtndcigdphgojpaaGreatDoor
open Go.RowKit Go.Shelf
set_option linter.unusedVariables false

theorem pick130 (a : Int) (h1 : -9223372036854775808 ≤ a) (h2 : a < 9223372036854775808) : ∃ k : Nat,k < 130∧∀ W,Calls Tryz.prog 7 #[.int .i64 a,.int .i64 130] W fun e w' => e = .returned (.int .i64 (k : Int))∧But [] W w' :=
 ⟨((if a < 0 then a + 18446744073709551616 else a) % 130).toNat,by
  have h3:=Int.emod_nonneg (if a < 0 then a + 18446744073709551616 else a) (show (130 : Int) ≠ 0 by decide)
  have h4:=Int.emod_lt_of_pos (if a < 0 then a + 18446744073709551616 else a) (show (0 : Int) < 130 by decide)
  generalize (if a < 0 then a + 18446744073709551616 else a) % 130 = y at *
  omega,fun W => pick_gen a 130 h1 h2 (by decide) (by decide) W⟩
set_option maxHeartbeats 32000000 in
set_option maxRecDepth 100000 in
theorem tableBack_few (z age nn mm : Int) (a : Option Addr) (n c : Nat) (qs : List (Int × Int)) (w : World) (hq : QsAt w (.slice a n c) qs) (hf : ∀ q ∈ qs,Fits q) (hN : n = qs.length) (hn : n ≤ 60)
  (ha1 : -9223372036854775808 ≤ age) (ha2 : age < 9223372036854775808) (hn1 : -9223372036854775808 ≤ nn) (hn2 : nn < 9223372036854775808) (hm1 : -9223372036854775808 ≤ mm) (hm2 : mm < 9223372036854775808)
  (htab : Lib.TabIs Tryz.prog w "internal/strconv.uint64pow10" .u64 Lib.pow10Tab) (hg : ErrVar w) :
  Calls Tryz.prog 3 #[.int .i64 z,.slice a n c,.int .i64 age,.int .i64 nn,.int .i64 mm] w fun e w' => e = .returned (.bool true)∧But [] w w':=by
 obtain ⟨i0,l0,K0⟩:=pick130 age ha1 ha2
 obtain ⟨i1,l1,K1⟩:=pick130 nn hn1 hn2
 obtain ⟨i2,l2,K2⟩:=pick130 mm hm1 hm2
 obtain ⟨fs,hfs⟩ : ∃ fs,fs = qs.map qf:=⟨_,rfl⟩
 have hfl : fs.length = n:=by rw [hfs,List.length_map]; exact hN.symm
 have lf : ∀ f ∈ fs,Len f 1:=by rw [hfs]; exact qs_len qs hf
 have PT:=hide (plainTable_any z _ qs w hq hf (by omega) hg)
 rw [← hfs] at PT
 obtain ⟨S,hS⟩ : ∃ S : ByteArray,S = ⟨(jn 32 (wsTab z fs)).toArray⟩:=⟨_,rfl⟩
 have TX : Hid (TabOk z fs→∀ g W,But [] w W→TabAt W g z fs→Calls Tryz.prog 6 #[.pointer (some ⟨g,0,none⟩)] W fun e w' => e = .returned (.string S)∧But [] W w'):=fun hok g W hb h => by
  have:=tabText_any g z fs W h hok.2.1 (by have:=hok.2.2.1; omega) hok.1 (by omega) lf (TabIs.but htab hb)
  unfold strV at this
  rw [← hS] at this
  exact this
 have RD : Hid (TabOk z fs→∀ W,But [] w W→Calls Tryz.prog 5 #[.string S] W fun e w' => ∃ g,e = .returned (.tuple #[.pointer (some ⟨g,0,none⟩),.nilIface])∧TabAt w' g z fs∧But [] W w'):=fun hok W hb => tableRead_any z fs hok (by omega) lf S hS W (TabIs.but htab hb)
 have PP : Hid (TabOk z fs→∀ (g : Nat) (W : World) (i nY : Nat),TabAt W g z fs→i ≤ 1000→nY ≤ 1000→Calls Tryz.prog 8 #[.pointer (some ⟨g,0,none⟩),.int .i64 (z + (i : Int)),.int .i64 (nY : Int)] W fun e w' => ∃ s x y p,e = .returned (.tuple #[.agg #[.bool s,.int .u64 x,.int .u64 y,.pointer p],.nilIface])∧FracAt w' (.agg #[.bool s,.int .u64 x,.int .u64 y,.pointer p]) (pvT fs i nY)∧But [] W w'):=fun hok g W i nY h h1 h2 => by
  refine (tabP_any g z fs i nY W h hok.2.1 (by have:=hok.2.2.1; omega) (by omega) hok.1 h1 h2 lf).mono ?_
  rintro e w' ⟨v,rfl,hv,hb⟩
  obtain ⟨x,y,p,rfl,-⟩:=hv.agg
  exact ⟨_,x,y,p,rfl,hv,hb⟩
 have LP : Hid (∀ i k,Len (pvT fs i k) 300):=fun i k => len_pvT fs lf (by omega) i k
 have LK : Hid (∀ W va vb f,But [] w W→Len f 1000000→FracAt W va f→FracAt W vb f→Calls Tryz.prog 9 #[va,vb] W fun e w' => e = .returned (.bool true)∧But [] W w'):=fun W va vb f hb hl h1 h2 => like_len va vb f W h1 h2 hl (TabIs.but htab hb)
 have HK0:=hide K0
 have HK1:=hide K1
 have HK2:=hide K2
 have ZR : Hid (TabOk z fs→0 ≤ z∧z ≤ 130):=fun h => ⟨h.2.1,by have:=h.2.2.1; have:=h.1; omega⟩
 clear hq hf hN htab hg lf hfs K0 K1 K2 hS ha1 ha2 hn1 hn2 hm1 hm2 hfl
 go_enter Tryz.func3,Tryz.ntmps3
 go_wp2_with fail
 refine (unhide PT).mono ?_
 rintro e w1 ⟨hb1,⟨hok,g,rfl,hT⟩ | ⟨hno,ce,hc0,rfl⟩⟩
 ·obtain ⟨z0,z1⟩:=unhide ZR hok
  have TX1:=hide (unhide TX hok)
  have RD1:=hide (unhide RD hok)
  have PP1:=hide (unhide PP hok)
  have B1:=hide hb1
  have T1:=hide hT
  clear hb1 hT hok PT TX RD PP ZR
  go_wp2_with fail
  refine (unhide TX1 g _ (unhide B1) (unhide T1)).mono ?_
  rintro e w2 ⟨rfl,hb2⟩
  have B2:=hide ((unhide B1).trans' hb2)
  have T2:=hide ((unhide T1).but hb2)
  clear hb2 B1 T1
  go_wp2_with fail
  refine (unhide RD1 _ (unhide B2)).mono ?_
  rintro e w3 ⟨g2,rfl,hT2,hb3⟩
  have B3:=hide ((unhide B2).trans' hb3)
  have T3:=hide ((unhide T2).but hb3)
  have U3:=hide hT2
  clear hb3 B2 T2 hT2 RD1
  go_wp2_with fail
  refine (unhide TX1 g2 _ (unhide B3) (unhide U3)).mono ?_
  rintro e w4 ⟨rfl,hb4⟩
  have B4:=hide ((unhide B3).trans' hb4)
  have T4:=hide ((unhide T3).but hb4)
  have U4:=hide ((unhide U3).but hb4)
  clear hb4 B3 T3 U3
  go_wp2_with fail
  refine (unhide TX1 g _ (unhide B4) (unhide T4)).mono ?_
  rintro e w5 ⟨rfl,hb5⟩
  have B5:=hide ((unhide B4).trans' hb5)
  have T5:=hide ((unhide T4).but hb5)
  have U5:=hide ((unhide U4).but hb5)
  clear hb5 B4 T4 U4 TX1
  go_wp2_with fail
  refine (unhide HK1 _).mono ?_
  rintro e w6 ⟨rfl,hb6⟩
  have B6:=hide ((unhide B5).trans' hb6)
  have T6:=hide ((unhide T5).but hb6)
  have U6:=hide ((unhide U5).but hb6)
  clear hb6 B5 T5 U5 HK1
  go_wp2_with fail
  refine (unhide HK2 _).mono ?_
  rintro e w7 ⟨rfl,hb7⟩
  have B7:=hide ((unhide B6).trans' hb7)
  have T7:=hide ((unhide T6).but hb7)
  have U7:=hide ((unhide U6).but hb7)
  clear hb7 B6 T6 U6 HK2
  go_wp2_with fail
  refine (unhide HK0 _).mono ?_
  rintro e w8 ⟨rfl,hb8⟩
  have B8:=hide ((unhide B7).trans' hb8)
  have T8:=hide ((unhide T7).but hb8)
  have U8:=hide ((unhide U7).but hb8)
  clear hb8 B7 T7 U7 HK0
  go_wp2_with fail
  refine (unhide PP1 g _ i0 i1 (unhide T8) (by omega) (by omega)).mono ?_
  rintro e w9 ⟨s1,x1,y1,p1,rfl,hf1,hb9⟩
  have bA : But [] w9 (w9.alloc (.cells #[.bool s1,.int .u64 x1,.int .u64 y1,.pointer p1] 36)):=(But.refl _ _).alloc _
  have X15:=hide (BoxAt.new w9 s1 x1 y1 p1 _ 36 hf1)
  have B9:=hide (((unhide B8).trans' hb9).trans' bA)
  have T9:=hide (((unhide T8).but hb9).but bA)
  have U9:=hide (((unhide U8).but hb9).but bA)
  clear hb9 hf1 B8 T8 U8 bA
  have PP2:=hide (unhide PP1 g (w9.alloc (.cells #[.bool s1,.int .u64 x1,.int .u64 y1,.pointer p1] 36)) (i0 + i1) i2 (unhide T9) (by omega) (by omega))
  rw [show z + ((i0 + i1 : Nat) : Int) = z + (i0 : Int) + (i1 : Int) by omega] at PP2
  go_wp2_with fail
  refine (unhide PP2).mono ?_
  rintro e w10 ⟨s2,x2,y2,p2,rfl,hf2,hb10⟩
  have bA : But [] w10 (w10.alloc (.cells #[.bool s2,.int .u64 x2,.int .u64 y2,.pointer p2] 36)):=(But.refl _ _).alloc _
  have X17:=hide (BoxAt.new w10 s2 x2 y2 p2 _ 36 hf2)
  have X15b:=hide (((unhide X15).but hb10).but bA)
  have B10:=hide (((unhide B9).trans' hb10).trans' bA)
  have U10:=hide (((unhide U9).but hb10).but bA)
  clear hb10 hf2 B9 T9 U9 bA PP2 X15
  have PP3:=hide (unhide PP1 g2 (w10.alloc (.cells #[.bool s2,.int .u64 x2,.int .u64 y2,.pointer p2] 36)) i0 (i1 + i2) (unhide U10) (by omega) (by omega))
  rw [show ((i1 + i2 : Nat) : Int) = (i1 : Int) + (i2 : Int) by omega] at PP3
  go_wp2_with fail
  refine (unhide PP3).mono ?_
  rintro e w11 ⟨s3,x3,y3,p3,rfl,hf3,hb11⟩
  have bA : But [] w11 (w11.alloc (.cells #[.bool s3,.int .u64 x3,.int .u64 y3,.pointer p3] 36)):=(But.refl _ _).alloc _
  have X19:=hide (BoxAt.new w11 s3 x3 y3 p3 _ 36 hf3)
  have X17b:=hide (((unhide X17).but hb11).but bA)
  have X15c:=hide (((unhide X15b).but hb11).but bA)
  have B11:=hide (((unhide B10).trans' hb11).trans' bA)
  clear hb11 hf3 B10 U10 bA PP3 X17 X15b PP1
  go_wp2
  generalize w11.alloc (.cells #[.bool s3,.int .u64 x3,.int .u64 y3,.pointer p3] 36) = V at *
  generalize w9.heap.size = g15 at *
  generalize w10.heap.size = g17 at *
  generalize w11.heap.size = g19 at *
  obtain ⟨⟨s4,x4,y4,p4,h15,f15⟩,-⟩:=unhide X15c
  obtain ⟨⟨s5,x5,y5,p5,h17,f17⟩,-⟩:=unhide X17b
  obtain ⟨⟨s6,x6,y6,p6,h19,f19⟩,-⟩:=unhide X19
  refine tback_region14 14 _ _ V g15 g17 g19 s4 x4 y4 p4 s5 x5 y5 p5 s6 x6 y6 p6 (pvT fs i0 (i1 + i2)) (by simp) (by simp [Act.eval]) (by simp [Act.eval]) (by simp [Act.eval]) (by simp [Act.eval]) (by simp [Act.eval]) (by simp [Act.eval]) h15 h17 h19 (fun W hb => by
   have:=fracMul_any _ _ _ _ W (f15.but hb) (f17.but hb) ((unhide LP i0 i1).mono (by omega)) ((unhide LP (i0 + i1) i2).mono (by omega))
   rw [pvT_add] at this
   exact this) (fun W hb v hv => unhide LK W v _ _ ((unhide B11).trans' hb) ((unhide LP i0 (i1 + i2)).mono (by omega)) hv (f19.but hb)) ?_
  intro w12 v12 hb12
  simp only [putted,List.foldl_cons,List.foldl_nil,Act.put,List.setIfInBounds_toArray,List.set_cons_zero,List.set_cons_succ]
  have B12:=hide ((unhide B11).trans' hb12)
  clear hb12 f15 f17 f19 h15 h17 h19
  go_wp2
  exact bodyPost_ret (v:=.bool true) (by simp [results,Tryz.results3,go_sem]) rfl ⟨rfl,unhide B12⟩
 ·have B1:=hide hb1
  have c1 : (ce != 0) = true:=bne_iff_ne.2 hc0
  clear hb1 hno PT TX RD PP ZR LP LK
  go_wp2
  exact bodyPost_ret (v:=.bool true) (by simp [results,Tryz.results3,go_sem]) rfl ⟨rfl,unhide B1⟩
set_option maxHeartbeats 8000000 in
set_option maxRecDepth 100000 in
theorem tableBack_many (z age nn mm : Int) (a : Option Addr) (n c : Nat) (w : World) (hn : ¬ n ≤ 60) :
  Calls Tryz.prog 3 #[.int .i64 z,.slice a n c,.int .i64 age,.int .i64 nn,.int .i64 mm] w fun e w' => e = .returned (.bool true)∧But [] w w':=by
 have h3 : (60 : Int) < (n : Int):=by omega
 clear hn
 go_enter Tryz.func3,Tryz.ntmps3
 go_wp2
 exact bodyPost_ret (v:=.bool true) (by simp [results,Tryz.results3,go_sem]) rfl ⟨rfl,But.refl _ _⟩
end Go.Proofs.YtndcigdphgojpaaGreatDoor
