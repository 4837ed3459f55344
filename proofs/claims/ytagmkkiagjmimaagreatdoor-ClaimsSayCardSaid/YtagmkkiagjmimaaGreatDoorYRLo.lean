/- One fraction of the program's and one of -/
import Derived.Test.YtagmkkiagjmimaaGreatDoorYRLb
namespace Go.Proofs.YtagmkkiagjmimaaGreatDoor
set_option linter.unusedVariables false
open Go.Proofs.Tryz
open Go.RowKit
set_option maxHeartbeats 16000000
set_option maxRecDepth 100000
theorem qex (v:Value) (r:Rat) (b:Nat) (w:World) (hv:aq w v r) (hb:ze w b r) (lr:Len r 1000000) (htab:Lib.TabIs prog w "internal/strconv.uint64pow10" .u64 Lib.pow10Tab) :
   Calls prog 21 #[v,.nilIface,.pointer (some ⟨b,0,none⟩),.int .i64 0] w fun e w'=>e=.returned (.bool true)∧But [] w w':=by(
 obtain⟨t,ht⟩:∃ t,t=zcw (decide (r.num<0)) r.num.natAbs r.den:=⟨_,rfl⟩
 have T1:=af (fun W (h:But [] w W)=>zeb v r W (hv.but h) (lr.mono (by omega)) (TabIs.but htab h) t ht)
 have T2:=af (fun W (h:But [] w W)=>zka b r W (hb.but h) ((uw lr).mono (by omega)) t (ht.trans (zrr r)))
 obtain⟨x,y,p,rfl,-⟩:=id hv.agg
 clear hv hb lr htab ht
 generalize decide (r.num<0)=s at *
 obtain⟨V,hV⟩:∃ V,V=w.alloc (.cells #[.bool s,.int .u64 x,.int .u64 y,.pointer p] 27):=⟨_,rfl⟩
 obtain⟨g,hg⟩:∃ g,g=w.heap.size:=⟨_,rfl⟩
 have c0:V.cell? ⟨g,0,none⟩=some (.bool s):=by rw[hV,hg];simp
 have c1:V.cell? ⟨g,1,none⟩=some (.int .u64 x):=by rw[hV,hg];simp
 have c2:V.cell? ⟨g,2,none⟩=some (.int .u64 y):=by rw[hV,hg];simp
 have c3:V.cell? ⟨g,3,none⟩=some (.pointer p):=by rw[hV,hg];simp
 have bV:But [] w V:=by rw[hV];exact (But.refl _ _).alloc _
 have BV:=af bV
 have HV:=af hV
 clear bV hV
 go_enter func21,ntmps21
 go_wp2_with fail
 rw[← ae HV]
 try rw[← hg]
 clear hg HV
 refine (ae T1 V (ae BV)).mono ?_
 rintro e w1 ⟨rfl,B1⟩
 have K1:=af ((ae BV).trans' B1)
 clear B1 c0 c1 c2 c3
 go_wp2_with fail
 refine (ae T2 w1 (ae K1)).mono ?_
 rintro e w2 ⟨rfl,B2⟩
 have K2:=af ((ae K1).trans' B2)
 clear B2
 go_wp2
 go_ret
 exact⟨rfl,ae K2⟩)
theorem zqf (n:Int) (v b:Value) (w:World) (hv:aq w v 0) (h0:(n != 0)=true) (htab:Lib.TabIs prog w "internal/strconv.uint64pow10" .u64 Lib.pow10Tab) (hg:w.cell? ⟨0,0,none⟩=some (.iface 219 (.agg #[.pointer (some ⟨7,29,none⟩)]))) :
   Calls prog 21 #[v,.iface 33 (.int .i64 n),b,.int .i64 n] w fun e w'=>e=.returned (.bool true)∧But [] w w':=by(
 have TZ:=af (fun W (h:But [] w W)=>zeb v 0 W (hv.but h) qam (TabIs.but htab h) ⟨#[48]⟩ qbu.symm)
 have TE:=af (fun W (h:But [] w W)=>zbu n W (h.ag hg (by simp)))
 obtain⟨x,y,p,rfl,-⟩:=id hv.agg
 clear htab hg hv
 generalize decide ((0:Rat).num<0)=s at *
 obtain⟨V,hV⟩:∃ V,V=w.alloc (.cells #[.bool s,.int .u64 x,.int .u64 y,.pointer p] 27):=⟨_,rfl⟩
 obtain⟨g,hg⟩:∃ g,g=w.heap.size:=⟨_,rfl⟩
 have c0:V.cell? ⟨g,0,none⟩=some (.bool s):=by rw[hV,hg];simp
 have c1:V.cell? ⟨g,1,none⟩=some (.int .u64 x):=by rw[hV,hg];simp
 have c2:V.cell? ⟨g,2,none⟩=some (.int .u64 y):=by rw[hV,hg];simp
 have c3:V.cell? ⟨g,3,none⟩=some (.pointer p):=by rw[hV,hg];simp
 have bV:But [] w V:=by rw[hV];exact (But.refl _ _).alloc _
 have BV:=af bV
 have HV:=af hV
 clear bV hV
 go_enter func21,ntmps21
 go_wp2_with fail
 rw[← ae HV]
 try rw[← hg]
 clear hg HV
 refine (ae TE V (ae BV)).mono ?_
 rintro e w2 ⟨rfl,B3⟩
 replace c0:=B3.ag c0 (by simp)
 replace c1:=B3.ag c1 (by simp)
 replace c2:=B3.ag c2 (by simp)
 replace c3:=B3.ag c3 (by simp)
 have B4:=af ((ae BV).trans' B3)
 clear B3
 go_wp2_with fail
 refine (ae TZ _ (ae B4)).mono ?_
 rintro e w3 ⟨rfl,B5⟩
 have B6:=af ((ae B4).trans' B5)
 clear B5
 go_wp2
 go_ret
 exact⟨rfl,ae B6⟩)
theorem qhx (v1 v2:Value) (fs:List Rat) (w:World) (h1:au w v1 fs) (h2:zn w v2 fs) (lf:∀ f ∈ fs,Len f 1000000) (hn:fs.length≤1000) (htab:Lib.TabIs prog w "internal/strconv.uint64pow10" .u64 Lib.pow10Tab) :
   Calls prog 124 #[v1,.nilIface,v2,.int .i64 0] w fun e w'=>e=.returned (.bool true)∧But [] w w':=by(
 have T1:=af (zml v1 fs w h1 lf hn htab)
 have T2:=af (fun W (hb:But [] w W)=>zpw v2 fs W (h2.but hb) lf hn)
 have SM:=af (fun W a b (h1:zfo W a (fs.map zer)) (h2:zfo W b (fs.map zer))=>same_eq a b (fs.map zer) W h1 h2 (by rw[List.length_map];exact hn))
 clear h1 h2 lf htab
 go_enter func124,ntmps124
 go_wp2_with fail
 refine (ae T1).mono ?_
 rintro e w1 ⟨a,rfl,ha,hb1⟩
 have A1:=af ha.qmh
 have B1:=af hb1
 clear ha hb1 T1
 go_wp2_with fail
 refine (ae T2 w1 (ae B1)).mono ?_
 rintro e w2 ⟨b,rfl,hb,hb2⟩
 have S2:=af (ae SM w2 a b ((ae A1).but hb2) hb.qmh)
 have B2:=af ((ae B1).trans' hb2)
 clear hb hb2 A1 B1 T2 SM
 go_wp2_with fail
 refine (ae S2).mono ?_
 rintro e w3 ⟨rfl,hb3⟩
 have B3:=af ((ae B2).trans' hb3)
 clear hb3 B2 S2
 go_wp2
 go_ret
 exact⟨rfl,ae B3⟩)
theorem qfe (n:Int) (a:Option Addr) (c:Nat) (b:Value) (w:World) (h0:(n != 0)=true) (hg:w.cell? ⟨0,0,none⟩=some (.iface 219 (.agg #[.pointer (some ⟨7,29,none⟩)]))) :
   Calls prog 124 #[.slice a 0 c,.iface 33 (.int .i64 n),b,.int .i64 n] w fun e w'=>e=.returned (.bool true)∧But [] w w':=by(
 have TE:=af (zbu n w hg)
 clear hg
 go_enter func124,ntmps124
 go_wp2_with fail
 refine (ae TE).mono ?_
 rintro e w1 ⟨rfl,hb⟩
 have B1:=af hb
 clear hb TE
 go_wp2
 go_ret
 exact⟨rfl,ae B1⟩)
end Go.Proofs.YtagmkkiagjmimaaGreatDoor
