/- One fraction of the program's and one of -/
import Derived.Test.YtpfnnhjnakmnoaaGreatDoorKMD1
import Derived.Test.YtpfnnhjnakmnoaaGreatDoorKMMpA
import Derived.Test.YtpfnnhjnakmnoaaGreatDoorKMMpB
namespace Go.Proofs.YtpfnnhjnakmnoaaGreatDoor
open Go.RowKit
set_option maxHeartbeats 16000000
set_option maxRecDepth 100000
theorem one_ok (v:Value) (r:Rat) (b:Nat) (w:World) (hv:FracAt w v r) (hb:RatIs w b r) (lr:Len r 1000000) (htab:Lib.TabIs Tryz.prog w "internal/strconv.uint64pow10" .u64 Lib.pow10Tab) :
  Calls Tryz.prog 15 #[v,.nilIface,.pointer (some ⟨b,0,none⟩),.int .i64 0] w fun e w'=>e=.returned (.bool true)∧But [] w w':=by
 obtain ⟨t,ht⟩:∃ t,t=fracTxt (decide (r.num<0)) r.num.natAbs r.den:=⟨_,rfl⟩
 have T1:=hide (fun W (h:But [] w W)=>fracText_len v r W (hv.but h) (lr.mono (by omega)) (TabIs.but htab h) t ht)
 have T2:=hide (fun W (h:But [] w W)=>refText_any b r W (hb.but h) ((lenU_len lr).mono (by omega)) t (ht.trans (txt_same r)))
 obtain ⟨x,y,p,rfl,-⟩:=id hv.agg
 clear hv hb lr htab ht
 generalize decide (r.num<0)=s at *
 obtain ⟨V,hV⟩:∃ V,V=w.alloc (.cells #[.bool s,.int .u64 x,.int .u64 y,.pointer p] 27):=⟨_,rfl⟩
 obtain ⟨g,hg⟩:∃ g,g=w.heap.size:=⟨_,rfl⟩
 have c0:V.cell? ⟨g,0,none⟩=some (.bool s):=by rw [hV,hg];simp
 have c1:V.cell? ⟨g,1,none⟩=some (.int .u64 x):=by rw [hV,hg];simp
 have c2:V.cell? ⟨g,2,none⟩=some (.int .u64 y):=by rw [hV,hg];simp
 have c3:V.cell? ⟨g,3,none⟩=some (.pointer p):=by rw [hV,hg];simp
 have bV:But [] w V:=by rw [hV];exact (But.refl _ _).alloc _
 have BV:=hide bV
 have HV:=hide hV
 clear bV hV
 go_enter Tryz.func15,Tryz.ntmps15
 go_wp2_with fail
 rw [← unhide HV]
 try rw [← hg]
 clear hg HV
 refine (unhide T1 V (unhide BV)).mono ?_
 rintro e w1 ⟨rfl,B1⟩
 have K1:=hide ((unhide BV).trans' B1)
 clear B1 c0 c1 c2 c3
 go_wp2_with fail
 refine (unhide T2 w1 (unhide K1)).mono ?_
 rintro e w2 ⟨rfl,B2⟩
 have K2:=hide ((unhide K1).trans' B2)
 clear B2
 go_wp2
 go_ret
 exact ⟨rfl,unhide K2⟩
theorem one_err (n:Int) (v b:Value) (w:World) (hv:FracAt w v 0) (h0:(n != 0)=true) (htab:Lib.TabIs Tryz.prog w "internal/strconv.uint64pow10" .u64 Lib.pow10Tab) (hg:w.cell? ⟨0,0,none⟩=some (.iface 171 (.agg #[.pointer (some ⟨7,29,none⟩)]))) :
  Calls Tryz.prog 15 #[v,.iface 33 (.int .i64 n),b,.int .i64 n] w fun e w'=>e=.returned (.bool true)∧But [] w w':=by
 have TZ:=hide (fun W (h:But [] w W)=>fracText_len v 0 W (hv.but h) len_zeroX (TabIs.but htab h) ⟨#[48]⟩ txt_zero.symm)
 have TE:=hide (fun W (h:But [] w W)=>tell_errno n W (h.cell_some hg (by simp)))
 obtain ⟨x,y,p,rfl,-⟩:=id hv.agg
 clear htab hg hv
 generalize decide ((0:Rat).num<0)=s at *
 obtain ⟨V,hV⟩:∃ V,V=w.alloc (.cells #[.bool s,.int .u64 x,.int .u64 y,.pointer p] 27):=⟨_,rfl⟩
 obtain ⟨g,hg⟩:∃ g,g=w.heap.size:=⟨_,rfl⟩
 have c0:V.cell? ⟨g,0,none⟩=some (.bool s):=by rw [hV,hg];simp
 have c1:V.cell? ⟨g,1,none⟩=some (.int .u64 x):=by rw [hV,hg];simp
 have c2:V.cell? ⟨g,2,none⟩=some (.int .u64 y):=by rw [hV,hg];simp
 have c3:V.cell? ⟨g,3,none⟩=some (.pointer p):=by rw [hV,hg];simp
 have bV:But [] w V:=by rw [hV];exact (But.refl _ _).alloc _
 have BV:=hide bV
 have HV:=hide hV
 clear bV hV
 go_enter Tryz.func15,Tryz.ntmps15
 go_wp2_with fail
 rw [← unhide HV]
 try rw [← hg]
 clear hg HV
 refine (unhide TE V (unhide BV)).mono ?_
 rintro e w2 ⟨rfl,B3⟩
 replace c0:=B3.cell_some c0 (by simp)
 replace c1:=B3.cell_some c1 (by simp)
 replace c2:=B3.cell_some c2 (by simp)
 replace c3:=B3.cell_some c3 (by simp)
 have B4:=hide ((unhide BV).trans' B3)
 clear B3
 go_wp2_with fail
 refine (unhide TZ _ (unhide B4)).mono ?_
 rintro e w3 ⟨rfl,B5⟩
 have B6:=hide ((unhide B4).trans' B5)
 clear B5
 go_wp2
 go_ret
 exact ⟨rfl,unhide B6⟩
theorem pairs_walk (d1 u1 ta th tb d2 u2:Int) (D f r1 r2 z1 z2:Rat) (s1 s2:Bool) (x1 y1 x2 y2:Int) (p1 p2:Option Addr) (ok:Bool) (ev ve:Value) (w:World)
  (FA:∀ W,Calls Tryz.prog 7 #[.agg #[.int .i64 d1,.int .i64 u1]] W fun e w'=>e=.returned (.agg #[.bool s1,.int .u64 x1,.int .u64 y1,.pointer p1])∧But [] W w') (FB:∀ W,Calls Tryz.prog 7 #[.agg #[.int .i64 d2,.int .i64 u2]] W fun e w'=>e=.returned (.agg #[.bool s2,.int .u64 x2,.int .u64 y2,.pointer p2])∧But [] W w')
  (PA:∀ W,But [] w W→Calls Tryz.prog 13 #[.agg #[.bool s1,.int .u64 x1,.int .u64 y1,.pointer p1],.int .i64 ta,.int .i64 th,.int .i64 tb,.agg #[.bool s2,.int .u64 x2,.int .u64 y2,.pointer p2]] W fun e w'=>∃ q:FZ × FZ,e=.returned (.tuple #[.agg #[.bool q.1.1,.int .u64 q.1.2.1,.int .u64 q.1.2.2.1,.pointer q.1.2.2.2],.agg #[.bool q.2.1,.int .u64 q.2.2.1,.int .u64 q.2.2.2.1,.pointer q.2.2.2.2],ev])∧TwoF w' q r1 r2∧But [] W w')
  (OA:∀ W,Calls Tryz.prog 12 #[.agg #[.int .i64 d1,.int .i64 u1]] W fun e w'=>∃ b,e=.returned (.pointer (some ⟨b,0,none⟩))∧RatIs w' b D∧But [] W w') (OB:∀ W,Calls Tryz.prog 12 #[.agg #[.int .i64 d2,.int .i64 u2]] W fun e w'=>∃ b,e=.returned (.pointer (some ⟨b,0,none⟩))∧RatIs w' b f∧But [] W w')
  (PR:∀ W x y,But [] w W→RatIs W x D→RatIs W y f→Calls Tryz.prog 14 #[.pointer (some ⟨x,0,none⟩),.int .i64 ta,.int .i64 th,.int .i64 tb,.pointer (some ⟨y,0,none⟩)] W fun e w'=>∃ q:Value × Value,e=.returned (.tuple #[q.1,q.2,ve])∧TwoR w' q z1 z2 ok∧But [] W w')
  (ON:∀ W (q:FZ × FZ) (v:Value × Value),But [] w W→TwoF W q r1 r2→TwoR W v z1 z2 ok→Calls Tryz.prog 15 #[.agg #[.bool q.1.1,.int .u64 q.1.2.1,.int .u64 q.1.2.2.1,.pointer q.1.2.2.2],ev,v.1,ve] W fun e w'=>e=.returned (.bool true)∧But [] W w')
  (OM:∀ W (q:FZ × FZ) (v:Value × Value),But [] w W→TwoF W q r1 r2→TwoR W v z1 z2 ok→Calls Tryz.prog 15 #[.agg #[.bool q.2.1,.int .u64 q.2.2.1,.int .u64 q.2.2.2.1,.pointer q.2.2.2.2],ev,v.2,ve] W fun e w'=>e=.returned (.bool true)∧But [] W w') :
  Calls Tryz.prog 4 #[.agg #[.int .i64 d1,.int .i64 u1],.int .i64 ta,.int .i64 th,.int .i64 tb,.agg #[.int .i64 d2,.int .i64 u2]] w fun e w'=>e=.returned (.bool true)∧But [] w w':=by
 have PAH:=hide PA
 have PRH:=hide PR
 have ONH:=hide ON
 have OMH:=hide OM
 have FAH:=hide (And.intro FA (And.intro FB (And.intro OA OB)))
 clear FA FB PA OA OB PR ON OM
 obtain ⟨V1,hV1⟩:∃ V1,V1=w.alloc (.cells #[.int .i64 d1,.int .i64 u1] 23):=⟨_,rfl⟩
 obtain ⟨W1,hW1⟩:∃ W1,W1=V1.alloc (.cells #[.int .i64 d2,.int .i64 u2] 23):=⟨_,rfl⟩
 have b1':But [] w V1:=by rw [hV1];exact (But.refl _ _).alloc _
 have b2':But [] V1 W1:=by rw [hW1];exact (But.refl _ _).alloc _
 have z1':V1.heap.size=w.heap.size+1:=by rw [hV1];simp
 have c5:NewB w.heap.size V1 w.heap.size [.int .i64 d1,.int .i64 u1]:=by rw [hV1];exact NewB.made _ w _ _ (Nat.le_refl _)
 have c9:NewB w.heap.size W1 V1.heap.size [.int .i64 d2,.int .i64 u2]:=by rw [hW1];exact NewB.made _ V1 _ _ (by omega)
 have HW:Hid (W1=(w.alloc (.cells #[.int .i64 d1,.int .i64 u1] 23)).alloc (.cells #[.int .i64 d2,.int .i64 u2] 23)):=by show _=_;rw [hW1,hV1]
 obtain ⟨g5,hg5⟩:∃ g,g=w.heap.size:=⟨_,rfl⟩
 obtain ⟨g9,hg9⟩:∃ g,g=w.heap.size+1:=⟨_,rfl⟩
 have C5:Hid (NewB w.heap.size W1 g5 [.int .i64 d1,.int .i64 u1]):=by show NewB _ _ _ _;rw [hg5];exact c5.but b2'
 have C9:Hid (NewB w.heap.size W1 g9 [.int .i64 d2,.int .i64 u2]):=by show NewB _ _ _ _;rw [hg9,← z1'];exact c9
 have B1:=hide (b1'.trans' b2')
 clear b1' b2' z1' c5 c9 hW1 hV1 V1
 go_enter Tryz.func4,Tryz.ntmps4
 go_wp2_with fail
 rw [← unhide HW]
 rw [← hg9,← hg5]
 clear HW hg5 hg9
 refine pairs_region1 1 _ _ W1 g5 g9 d1 u1 d2 u2 ta th tb r1 r2 ev s1 x1 y1 p1 s2 x2 y2 p2 (by simp) (by simp [Act.eval]) (by simp [Act.eval]) (by simp [Act.eval]) (by simp [Act.eval]) (by simp [Act.eval]) ((unhide C5).cells 0 _ rfl) ((unhide C5).cells 1 _ rfl) ((unhide C9).cells 0 _ rfl) ((unhide C9).cells 1 _ rfl) (unhide FAH).1 (unhide FAH).2.1 (fun W hb=>unhide PAH W ((unhide B1).trans' hb)) ?_
 intro q g11 g12 w2 hP
 simp only [putted,List.foldl_cons,List.foldl_nil,Act.put,List.setIfInBounds_toArray,List.set_cons_zero,List.set_cons_succ]
 have n12:g11≠g12:=hP.x12_13 rfl rfl
 have N11:=hP.f12 rfl
 have N12:=hP.f13 rfl
 have TF:=hP.f7 rfl
 have m2:=hP.mem
 obtain ⟨⟨sa,xa,ya,pa⟩,⟨sb,xb,yb,pb⟩⟩:=q
 simp only at N11 N12 TF ⊢
 clear hP
 obtain ⟨V2,hV2⟩:∃ V,V=w2.setCells g11 0 [.bool sa,.int .u64 xa,.int .u64 ya,.pointer pa]:=⟨_,rfl⟩
 obtain ⟨V3,hV3⟩:∃ V,V=V2.setCells g12 0 [.bool sb,.int .u64 xb,.int .u64 yb,.pointer pb]:=⟨_,rfl⟩
 have bA:But [g11] w2 V2:=by rw [hV2];exact but_setCells w2 g11 _ 0
 have bB:But [g12] V2 V3:=by rw [hV3];exact but_setCells V2 g12 _ 0
 have M11:NewB W1.heap.size V2 g11 [.bool sa,.int .u64 xa,.int .u64 ya,.pointer pa]:=by
  have:=N11.put (us:=[.bool sa,.int .u64 xa,.int .u64 ya,.pointer pa]) rfl
  rw [← hV2] at this
  exact this
 have M12:=N12.beside bA (by simpa using n12.symm)
 have cA:∀ g ∈ [g11],∃ s,w2.cell? ⟨g,0,none⟩=some (.bool s):=fun g hg=>by simp at hg;subst hg;exact ⟨_,N11.cells 0 _ rfl⟩
 have cB:∀ g ∈ [g12],∃ s,V2.cell? ⟨g,0,none⟩=some (.bool s):=fun g hg=>by simp at hg;subst hg;exact ⟨_,M12.cells 0 _ rfl⟩
 have N3:=hide (M11.beside bB (by simpa using n12))
 have N4:Hid (NewB W1.heap.size V3 g12 [.bool sb,.int .u64 xb,.int .u64 yb,.pointer pb]):=by
  have:=M12.put (us:=[.bool sb,.int .u64 xb,.int .u64 yb,.pointer pb]) rfl
  rw [← hV3] at this
  exact this
 have T3:Hid (TwoF V3 ((sa,xa,ya,pa),(sb,xb,yb,pb)) r1 r2):=⟨(TF.1.beside bA cA).beside bB cB,(TF.2.beside bA cA).beside bB cB⟩
 have l5:g5<W1.heap.size:=(unhide C5).lt
 have l9:g9<W1.heap.size:=(unhide C9).lt
 have e11:=N11.new
 have e12:=N12.new
 have C53:=hide ((((unhide C5).but m2).beside bA (by simp;omega)).beside bB (by simp;omega))
 have C93:=hide ((((unhide C9).but m2).beside bA (by simp;omega)).beside bB (by simp;omega))
 have B3:=hide ((((unhide B1).trans' m2).trans bA (fun x hx=>by simp at hx;subst hx;exact .inr (by have:=(unhide B1).size;omega))).trans bB (fun x hx=>by simp at hx;subst hx;exact .inr (by have:=(unhide B1).size;omega)))
 rw [← hV2,← hV3]
 clear bA bB M11 M12 cA cB N11 N12 TF m2 hV2 hV3 l5 l9 e11 e12 C5 C9 B1 n12 PAH
 go_wp2_with fail
 refine pairs_region2 2 _ _ V3 g5 g9 d1 u1 d2 u2 ta th tb D f z1 z2 ok ve (by simp) (by simp [Act.eval]) (by simp [Act.eval]) (by simp [Act.eval]) (by simp [Act.eval]) (by simp [Act.eval]) ((unhide C53).cells 0 _ rfl) ((unhide C53).cells 1 _ rfl) ((unhide C93).cells 0 _ rfl) ((unhide C93).cells 1 _ rfl) (unhide FAH).2.2.1 (unhide FAH).2.2.2 (fun W x y hb=>unhide PRH W x y ((unhide B3).trans' hb)) ?_
 intro bx by_ v w4 hP
 obtain ⟨v1,v2⟩:=v
 simp only [putted,List.foldl_cons,List.foldl_nil,Act.put,List.setIfInBounds_toArray,List.set_cons_zero,List.set_cons_succ]
 have TR4:=hide (hP.f7 rfl)
 have m4:=hP.mem
 have N34:=hide ((unhide N3).but m4)
 have N44:=hide ((unhide N4).but m4)
 have T34:=hide ((unhide T3).but m4)
 have B4:=hide ((unhide B3).trans' m4)
 have k0:=(unhide N34).cells 0 _ rfl
 have k1:=(unhide N34).cells 1 _ rfl
 have k2:=(unhide N34).cells 2 _ rfl
 have k3:=(unhide N34).cells 3 _ rfl
 clear hP m4 N3 N4 T3 B3 C53 C93 PRH FAH
 go_wp2_with fail
 refine (unhide ONH w4 ((sa,xa,ya,pa),(sb,xb,yb,pb)) (v1,v2) (unhide B4) (unhide T34) (unhide TR4)).mono ?_
 rintro e w5 ⟨rfl,hb5⟩
 have N45:=hide ((unhide N44).but hb5)
 have T35:=hide ((unhide T34).but hb5)
 have TR5:=hide ((unhide TR4).but hb5)
 have B5:=hide ((unhide B4).trans' hb5)
 clear hb5 k0 k1 k2 k3 N34 N44 T34 TR4 B4 ONH
 have k0:=(unhide N45).cells 0 _ rfl
 have k1:=(unhide N45).cells 1 _ rfl
 have k2:=(unhide N45).cells 2 _ rfl
 have k3:=(unhide N45).cells 3 _ rfl
 go_wp2_with fail
 refine (unhide OMH w5 ((sa,xa,ya,pa),(sb,xb,yb,pb)) (v1,v2) (unhide B5) (unhide T35) (unhide TR5)).mono ?_
 rintro e w6 ⟨rfl,hb6⟩
 have B6:=hide ((unhide B5).trans' hb6)
 clear hb6 k0 k1 k2 k3 N45 T35 TR5 B5 OMH
 go_wp2
 go_ret
 exact ⟨rfl,unhide B6⟩
end Go.Proofs.YtpfnnhjnakmnoaaGreatDoor

namespace Go.Proofs.YtpfnnhjnakmnoaaGreatDoor
open Go.RowKit
set_option maxHeartbeats 4000000
theorem pow_oneM:∀ n:Nat,(1:Rat)^n=1
 | 0=>Rat.pow_zero _
 | n+1=>by rw [Rat.pow_succ,pow_oneM n];grind
theorem pos_num_ne {x:Rat} (h:0<x):x.num≠0:=by
 have:=numPos.2 h
 omega
theorem cast_posM {z:Int} (h:0<z):(0:Rat)<((z:Int):Rat):=by
 exact_mod_cast h
theorem matchPairs_any (d1 u1 ta th tb d2 u2:Int) (w:World) (hd1:-9223372036854775808≤d1∧d1<9223372036854775808) (hu1:-9223372036854775808≤u1∧u1<9223372036854775808) (hd2:-9223372036854775808≤d2∧d2<9223372036854775808) (hu2:-9223372036854775808≤u2∧u2<9223372036854775808)
  (htab:Lib.TabIs Tryz.prog w "internal/strconv.uint64pow10" .u64 Lib.pow10Tab) (herr:w.cell? ⟨0,0,none⟩=some (.iface 171 (.agg #[.pointer (some ⟨7,29,none⟩)]))) :
  Calls Tryz.prog 4 #[.agg #[.int .i64 d1,.int .i64 u1],.int .i64 ta,.int .i64 th,.int .i64 tb,.agg #[.int .i64 d2,.int .i64 u2]] w fun e w'=>e=.returned (.bool true)∧But [] w w':=by
 obtain ⟨D,sD,xD,yD,lD,eD,FD,CD⟩:=plainF_any d1 u1 hd1.1 hd1.2 hu1.1 hu1.2
 obtain ⟨f,sf,xf,yf,lf,ef,Ff,Cf⟩:=plainF_any d2 u2 hd2.1 hd2.2 hu2.1 hu2.2
 have OA:=fun W=>refOfQ d1 u1 D W hd1.1 hd1.2 hu1.1 hu1.2 eD
 have OB:=fun W=>refOfQ d2 u2 f W hd2.1 hd2.2 hu2.1 hu2.2 ef
 have lD2:LenU D 2:=(lenU_len lD).mono (by omega)
 have lf2:LenU f 2:=(lenU_len lf).mono (by omega)
 have bad:∀ n:Int,(n != 0)=true→(∀ W,But [] w W→Calls Tryz.prog 13 #[.agg #[.bool sD,.int .u64 xD,.int .u64 yD,.pointer none],.int .i64 ta,.int .i64 th,.int .i64 tb,.agg #[.bool sf,.int .u64 xf,.int .u64 yf,.pointer none]] W fun e w'=>e=.returned (.tuple #[.agg #[.bool false,.int .u64 0,.int .u64 0,.pointer none],.agg #[.bool false,.int .u64 0,.int .u64 0,.pointer none],.iface 33 (.int .i64 n)])∧But [] W w') →
   (∀ W x y,RatIs W x D→RatIs W y f→Calls Tryz.prog 14 #[.pointer (some ⟨x,0,none⟩),.int .i64 ta,.int .i64 th,.int .i64 tb,.pointer (some ⟨y,0,none⟩)] W fun e w'=>e=.returned (.tuple #[.pointer none,.pointer none,.int .i64 n])∧But [] W w') →
   Calls Tryz.prog 4 #[.agg #[.int .i64 d1,.int .i64 u1],.int .i64 ta,.int .i64 th,.int .i64 tb,.agg #[.int .i64 d2,.int .i64 u2]] w fun e w'=>e=.returned (.bool true)∧But [] w w':=by
  intro n hn h1 h2
  refine pairs_walk d1 u1 ta th tb d2 u2 D f 0 0 0 0 sD sf xD yD xf yf none none false (.iface 33 (.int .i64 n)) (.int .i64 n) w CD Cf ?_ OA OB ?_ ?_ ?_
  ·intro W hb
   exact (h1 W hb).mono fun e w' ⟨he,hb'⟩=>⟨((false,0,0,none),(false,0,0,none)),he,⟨zero_at w',zero_at w'⟩,hb'⟩
  ·intro W x y _ hx hy
   exact (h2 W x y hx hy).mono fun e w' ⟨he,hb'⟩=>⟨(.pointer none,.pointer none),he,(fun e=>by cases e),hb'⟩
  ·intro W q v hb hq _
   exact one_err n _ v.1 W hq.1 hn (TabIs.but htab hb) (hb.cell_some herr (by simp))
  ·intro W q v hb hq _
   exact one_err n _ v.2 W hq.2 hn (TabIs.but htab hb) (hb.cell_some herr (by simp))
 by_cases h1:th<0
 ·exact bad 2 (by decide) (fun W _=>pair_errE _ _ D f ta th tb W (FD W) (Ff W) h1) (fun W x y _ _=>refPair_errA x y ta th tb W h1)
 by_cases h2:th<ta
 case neg=>exact bad 2 (by decide) (fun W _=>pair_errC _ _ D f ta th tb W (FD W) (Ff W) h2 (by omega)) (fun W x y _ _=>refPair_errB x y ta th tb W (by omega) h2)
 by_cases h3:ta<tb
 case neg=>exact bad 2 (by decide) (fun W _=>pair_errD _ _ D f ta th tb W (FD W) (Ff W) h2 h3 (by omega)) (fun W x y _ _=>refPair_errC x y ta th tb W (by omega) h2 h3)
 by_cases h4:tb≤120
 case neg=>exact bad 2 (by decide) (fun W _=>pair_errF _ _ D f ta th tb W (FD W) (Ff W) h2 h3 (by omega) (by omega)) (fun W x y _ _=>refPair_errD x y ta th tb W (by omega) h2 h3 (by omega))
 have h0:0≤th:=by omega
 by_cases h5:-1<f
 case neg =>
  have hs:(((1:Int):Rat)+f).num.sign≤0:=by
   have:¬ 0<(1+f).num:=fun h=>h5 (by have:=numPos.1 h;grind)
   have h':(((1:Int):Rat)+f).num≤0:=Int.not_lt.1 this
   rcases sign_cases (((1:Int):Rat)+f).num with ⟨a,b⟩ | ⟨a,b⟩ | ⟨a,b⟩ <;> omega
  exact bad 1 (by decide) (fun W _=>pair_errA _ _ D f ta th tb W (FD W) (Ff W) lf h5 h2 h3 h0 h4 (by omega) (by omega) (by omega) (by omega)) (fun W x y hx hy=>refPair_errE x y D f ta th tb _ _ W hx hy lD2 lf2 rfl rfl h0 h2 h3 h4 hs)
 by_cases h6:D<0
 ·have hs:D.num.sign<0:=by
   have h':D.num<0:=numNeg.2 h6
   rw [Int.sign_eq_neg_one_of_neg h'];decide
  have hg:0<(((1:Int):Rat)+f).num.sign:=by
   have e1:=Int.sign_eq_one_of_pos (one_pos_num h5)
   rw [show (((1:Int):Rat))=1 from rfl]
   omega
  exact bad 1 (by decide) (fun W _=>pair_errB _ _ D f ta th tb W (FD W) (Ff W) lf h5 h6 h2 h3 h0 h4 (by omega) (by omega) (by omega) (by omega)) (fun W x y hx hy=>refPair_errF x y D f ta th tb _ _ W hx hy lD2 lf2 rfl rfl h0 h2 h3 h4 hg hs)
 have hD:0≤D:=by grind
 obtain ⟨a,rfl⟩:∃ a:Nat,th=(a:Int):=⟨th.toNat,by omega⟩
 obtain ⟨t,rfl⟩:∃ t:Nat,ta=(t:Int):=⟨ta.toNat,by omega⟩
 obtain ⟨b,rfl⟩:∃ b:Nat,tb=(b:Int):=⟨tb.toNat,by omega⟩
 obtain ⟨x,y,hP,lx,ly,PC0⟩:=pair_ok (.agg #[.bool sD,.int .u64 xD,.int .u64 yD,.pointer none]) (.agg #[.bool sf,.int .u64 xf,.int .u64 yf,.pointer none]) D f a t b lD lf h5 hD (by omega) (by omega) (by omega)
 have PC:=fun W=>PC0 W (FD W) (Ff W)
 obtain ⟨pa,pb,ha,hb,ex,ey⟩:=hP.ex
 have g0:0<1+f:=by grind
 have gd:(1+f)*(1+f)⁻¹=1:=hP.inv
 have powgd:∀ n:Nat,(1+f)^n*(1+f)⁻¹^n=1:=fun n=>by rw [← pow_mul,gd,pow_oneM]
 have e1:((b:Int)-(t:Int))=((b-t:Nat):Int):=by omega
 have e2:((b:Int)-(a:Int))=((b-a:Nat):Int):=by omega
 have e3:((t:Int)-(a:Int))=((t-a:Nat):Int):=by omega
 have li:Len (1+f)⁻¹ 3:=len_inv (len_add (len_int 1 (by decide)) lf _ (by omega)) (pos_num_ne g0)
 have ly':LenU (y*(1+f)⁻¹^(b-t)) 2000000:=((lenU_len ly).mul (lenU_len (len_powV li (b-t)))).mono (by omega)
 have pw1:=powgd (t-a)
 have pw2:=powgd (b-t)
 have hne0:(0:Rat)<(((b:Int)-(a:Int):Int):Rat):=cast_posM (by omega)
 have RP:=fun W x' y' (hx:RatIs W x' D) (hy:RatIs W y' f)=>refPair_ok x' y' D f x (y*(1+f)⁻¹^(b-t)) (t:Int) (a:Int) (b:Int) D.num.sign (t-a) (b-t) W hx hy lD2 lf2 h5 (by
   have:0≤D.num:=Rat.num_nonneg.2 hD
   rcases sign_cases D.num with ⟨p,q⟩ | ⟨p,q⟩ | ⟨p,q⟩ <;> omega) rfl h0 h2 h3 h4 e3 e1 (pos_num_ne (Rat.mul_pos hne0 (Rat.pow_pos g0))) (pos_num_ne hne0) (by
   rw [e1,e2,ex,← ha];grind) (by
   rw [e2,e3,ey,← hb];grind) ly'
 have ey2:y*(1+f)⁻¹^(b-t)*(1+f)^(b-t)=y:=by grind
 rw [ey2] at RP
 refine pairs_walk d1 u1 _ _ _ d2 u2 D f x y x y sD sf xD yD xf yf none none true .nilIface (.int .i64 0) w CD Cf ?_ OA OB ?_ ?_ ?_
 ·intro W hb
  exact (PC W).mono fun e w' ⟨za,zb,he,h1,h2,h3⟩=>⟨(za,zb),he,⟨h1,h2⟩,h3⟩
 ·intro W x' y' _ hx hy
  exact (RP W x' y' hx hy).mono fun e w' ⟨xb,yb,he,h1,h2,h3⟩=>⟨(.pointer (some ⟨xb,0,none⟩),.pointer (some ⟨yb,0,none⟩)),he,fun _=>⟨xb,yb,rfl,rfl,h1,h2⟩,h3⟩
 ·intro W q v hb hq hv
  obtain ⟨xb,yb,e1,e2,h1,h2⟩:=hv rfl
  rw [e1]
  exact one_ok _ x xb W hq.1 h1 (lx.mono (by omega)) (TabIs.but htab hb)
 ·intro W q v hb hq hv
  obtain ⟨xb,yb,e1,e2,h1,h2⟩:=hv rfl
  rw [e2]
  exact one_ok _ y yb W hq.2 h2 (ly.mono (by omega)) (TabIs.but htab hb)
end Go.Proofs.YtpfnnhjnakmnoaaGreatDoor
