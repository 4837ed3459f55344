/- The reference's numbers, in one form.  -/
import Derived.Test.YtollloafckcogaaGreatDoorKFD1
import Derived.Test.YtollloafckcogaaGreatDoorKFHG
import Derived.Test.YtollloafckcogaaGreatDoorKFHQ
namespace Go.Proofs.YtollloafckcogaaGreatDoor
open Go.RowKit
set_option linter.unusedVariables false
theorem refIntQ (z:Int) (w:World) (h1:-9223372036854775808≤z) (h2:z<9223372036854775808) :
  Calls Tryz.prog 21 #[.int .i64 z] w fun e w'=>∃ zb,e=.returned (.pointer (some ⟨zb,0,none⟩))∧RatIs w' zb (((z:Int):Rat))∧But [] w w':=by
 obtain ⟨i1,i2⟩:=int_parts z
 exact (refInt_any z w h1 h2).mono fun e w' ⟨zb,he,hb,hr⟩=>⟨zb,he,by unfold RatIs;rw [i1,i2];exact hr,hb⟩
theorem refAddQ (xb yb:Nat) (f g:Rat) (w:World) (hx:RatIs w xb f) (hy:RatIs w yb g) (lf:LenU f 2000000) (lg:LenU g 2000000) :
  Calls Tryz.prog 53 #[.pointer (some ⟨xb,0,none⟩),.pointer (some ⟨yb,0,none⟩)] w fun e w'=>∃ zb,e=.returned (.pointer (some ⟨zb,0,none⟩))∧RatIs w' zb (f+g)∧But [] w w' :=
 (refAdd_any xb yb f g w hx hy lf lg).mono fun e w' ⟨zb,he,hb,hr,_⟩=>⟨zb,he,hr,hb⟩
theorem refSubQ (xb yb:Nat) (f g:Rat) (w:World) (hx:RatIs w xb f) (hy:RatIs w yb g) (lf:LenU f 2000000) (lg:LenU g 2000000) :
  Calls Tryz.prog 46 #[.pointer (some ⟨xb,0,none⟩),.pointer (some ⟨yb,0,none⟩)] w fun e w'=>∃ zb,e=.returned (.pointer (some ⟨zb,0,none⟩))∧RatIs w' zb (f-g)∧But [] w w' :=
 (refSub_any xb yb f g w hx hy lf lg).mono fun e w' ⟨zb,he,hb,hr,_⟩=>⟨zb,he,hr,hb⟩
theorem refMulQ (xb yb:Nat) (f g:Rat) (w:World) (hx:RatIs w xb f) (hy:RatIs w yb g) (lf:LenU f 2000000) (lg:LenU g 2000000) :
  Calls Tryz.prog 41 #[.pointer (some ⟨xb,0,none⟩),.pointer (some ⟨yb,0,none⟩)] w fun e w'=>∃ zb,e=.returned (.pointer (some ⟨zb,0,none⟩))∧RatIs w' zb (f*g)∧But [] w w' :=
 (refMul_any xb yb f g w hx hy lf lg).mono fun e w' ⟨zb,he,hb,hr,_⟩=>⟨zb,he,hr,hb⟩
theorem refDivQ (xb yb:Nat) (f g q:Rat) (w:World) (hx:RatIs w xb f) (hy:RatIs w yb g) (lf:LenU f 2000000) (lg:LenU g 2000000) (hg0:g.num≠0) (hq:q*g=f) :
  Calls Tryz.prog 22 #[.pointer (some ⟨xb,0,none⟩),.pointer (some ⟨yb,0,none⟩)] w fun e w'=>∃ zb,e=.returned (.pointer (some ⟨zb,0,none⟩))∧RatIs w' zb (q)∧But [] w w' :=
 (refDivU_any xb yb f g q w hx hy lf lg hg0 hq).mono fun e w' ⟨zb,he,hb,hr,_⟩=>⟨zb,he,hr,hb⟩
theorem refOfQ (o u:Int) (f:Rat) (w:World) (ho1:-9223372036854775808≤o) (ho2:o<9223372036854775808) (hu1:-9223372036854775808≤u) (hu2:u<9223372036854775808) (hf:f.num*(if u=0 then 1 else u)=o*(f.den:Int)) :
  Calls Tryz.prog 12 #[.agg #[.int .i64 o,.int .i64 u]] w fun e w'=>∃ zb,e=.returned (.pointer (some ⟨zb,0,none⟩))∧RatIs w' zb (f)∧But [] w w' :=
 (refOf_any o u f w ho1 ho2 hu1 hu2 hf).mono fun e w' ⟨zb,he,hb,hr,_⟩=>⟨zb,he,hr,hb⟩
theorem refSignQ (b:Nat) (f:Rat) (w:World) (h:RatIs w b f) (s:Int) (hs:s=f.num.sign) (hl:LenU f 2000000) :
  Calls Tryz.prog 54 #[.pointer (some ⟨b,0,none⟩)] w fun e w'=>e=.returned (.int .i64 s)∧But [] w w' :=
 (ratSign_any b f.num (f.den:Int) w h s hs (by have:=hl.1;omega)).mono fun e w' ⟨he,hw⟩=>⟨he,by rw [hw];exact But.refl _ _⟩
theorem LenU.int {z:Int} (h:z.natAbs<18446744073709551616):LenU ((z:Int):Rat) 2:=by
 obtain ⟨i1,i2⟩:=int_parts z
 exact ⟨by rw [i1];exact len_le_two _ h,by rw [i2];exact len_le_two _ (by omega)⟩
end Go.Proofs.YtollloafckcogaaGreatDoor

namespace Go.Proofs.YtollloafckcogaaGreatDoor
open Go.RowKit
set_option maxHeartbeats 16000000
set_option maxRecDepth 100000
theorem one_ok (v:Value) (r:Rat) (b:Nat) (w:World) (hv:FracAt w v r) (hb:RatIs w b r) (lr:Len r 1000000) (htab:Lib.TabIs Tryz.prog w "internal/strconv.uint64pow10" .u64 Lib.pow10Tab) :
  Calls Tryz.prog 23 #[v,.nilIface,.pointer (some ⟨b,0,none⟩),.int .i64 0] w fun e w'=>e=.returned (.bool true)∧But [] w w':=by
 obtain ⟨t,ht⟩:∃ t,t=fracTxt (decide (r.num<0)) r.num.natAbs r.den:=⟨_,rfl⟩
 have T1:=hide (fun W (h:But [] w W)=>fracText_len v r W (hv.but h) (lr.mono (by omega)) (TabIs.but htab h) t ht)
 have T2:=hide (fun W (h:But [] w W)=>refText_any b r W (hb.but h) ((lenU_len lr).mono (by omega)) t (ht.trans (txt_same r)))
 obtain ⟨x,y,p,rfl,-⟩:=id hv.agg
 clear hv hb lr htab ht
 generalize decide (r.num<0)=s at *
 obtain ⟨V,hV⟩:∃ V,V=w.alloc (.cells #[.bool s,.int .u64 x,.int .u64 y,.pointer p] 27):=⟨_,rfl⟩
 obtain ⟨g,hg⟩:∃ g,g=w.heap.size:=⟨_,rfl⟩
 have c0:V.cell? ⟨g,0,none⟩=some (.bool s):=by rw [hV,hg];simp
 have c1:V.cell? ⟨g,1,none⟩=some (.int .u64 x):=by rw [hV,hg];simp
 have c2:V.cell? ⟨g,2,none⟩=some (.int .u64 y):=by rw [hV,hg];simp
 have c3:V.cell? ⟨g,3,none⟩=some (.pointer p):=by rw [hV,hg];simp
 have bV:But [] w V:=by rw [hV];exact (But.refl _ _).alloc _
 have BV:=hide bV
 have HV:=hide hV
 clear bV hV
 go_enter Tryz.func23,Tryz.ntmps23
 go_wp2_with fail
 rw [← unhide HV]
 try rw [← hg]
 clear hg HV
 refine (unhide T1 V (unhide BV)).mono ?_
 rintro e w1 ⟨rfl,B1⟩
 have K1:=hide ((unhide BV).trans' B1)
 clear B1 c0 c1 c2 c3
 go_wp2_with fail
 refine (unhide T2 w1 (unhide K1)).mono ?_
 rintro e w2 ⟨rfl,B2⟩
 have K2:=hide ((unhide K1).trans' B2)
 clear B2
 go_wp2
 go_ret
 exact ⟨rfl,unhide K2⟩
theorem one_err (n:Int) (v b:Value) (w:World) (hv:FracAt w v 0) (h0:(n != 0)=true) (htab:Lib.TabIs Tryz.prog w "internal/strconv.uint64pow10" .u64 Lib.pow10Tab) (hg:w.cell? ⟨0,0,none⟩=some (.iface 169 (.agg #[.pointer (some ⟨6,29,none⟩)]))) :
  Calls Tryz.prog 23 #[v,.iface 33 (.int .i64 n),b,.int .i64 n] w fun e w'=>e=.returned (.bool true)∧But [] w w':=by
 have TZ:=hide (fun W (h:But [] w W)=>fracText_len v 0 W (hv.but h) len_zeroX (TabIs.but htab h) ⟨#[48]⟩ txt_zero.symm)
 have TE:=hide (fun W (h:But [] w W)=>tell_errno n W (h.cell_some hg (by simp)))
 obtain ⟨x,y,p,rfl,-⟩:=id hv.agg
 clear htab hg hv
 generalize decide ((0:Rat).num<0)=s at *
 obtain ⟨V,hV⟩:∃ V,V=w.alloc (.cells #[.bool s,.int .u64 x,.int .u64 y,.pointer p] 27):=⟨_,rfl⟩
 obtain ⟨g,hg⟩:∃ g,g=w.heap.size:=⟨_,rfl⟩
 have c0:V.cell? ⟨g,0,none⟩=some (.bool s):=by rw [hV,hg];simp
 have c1:V.cell? ⟨g,1,none⟩=some (.int .u64 x):=by rw [hV,hg];simp
 have c2:V.cell? ⟨g,2,none⟩=some (.int .u64 y):=by rw [hV,hg];simp
 have c3:V.cell? ⟨g,3,none⟩=some (.pointer p):=by rw [hV,hg];simp
 have bV:But [] w V:=by rw [hV];exact (But.refl _ _).alloc _
 have BV:=hide bV
 have HV:=hide hV
 clear bV hV
 go_enter Tryz.func23,Tryz.ntmps23
 go_wp2_with fail
 rw [← unhide HV]
 try rw [← hg]
 clear hg HV
 refine (unhide TE V (unhide BV)).mono ?_
 rintro e w2 ⟨rfl,B3⟩
 replace c0:=B3.cell_some c0 (by simp)
 replace c1:=B3.cell_some c1 (by simp)
 replace c2:=B3.cell_some c2 (by simp)
 replace c3:=B3.cell_some c3 (by simp)
 have B4:=hide ((unhide BV).trans' B3)
 clear B3
 go_wp2_with fail
 refine (unhide TZ _ (unhide B4)).mono ?_
 rintro e w3 ⟨rfl,B5⟩
 have B6:=hide ((unhide B4).trans' B5)
 clear B5
 go_wp2
 go_ret
 exact ⟨rfl,unhide B6⟩
end Go.Proofs.YtollloafckcogaaGreatDoor
