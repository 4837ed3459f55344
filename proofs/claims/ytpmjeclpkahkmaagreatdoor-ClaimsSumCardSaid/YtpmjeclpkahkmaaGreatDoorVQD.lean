/- A text is cut into its parts, as the Go  -/
import Derived.Deep.RegionHeld
import Derived.Test.YtpmjeclpkahkmaaGreatDoorVF7
namespace Go.Proofs.YtpmjeclpkahkmaaGreatDoor
set_option linter.unusedVariables false
open Go.Proofs.Tryz
open Go.RowKit
set_option maxHeartbeats 8000000
set_option maxRecDepth 100000
theorem zlg (t:ByteArray) (xs ds es:List UInt8) (h:t.data.toList=xs++ds++es):(t.extract xs.length (xs.length+ds.length)).data.toList=ds:=by
 rw[ByteArray.data_extract,Array.toList_extract,List.extract_eq_take_drop,h,List.append_assoc,List.drop_left,Nat.add_sub_cancel_left,List.take_left]
theorem zre (ds:List UInt8) (h:∀ d,ds.head? = some d→d≠45):Lib.hasPrefix ds [45]=false:=by(
cases ds with
| nil=>rfl
| cons d ds =>
 have:=h d rfl
 simp[Lib.hasPrefix,List.isPrefixOf]
 exact fun e=>this e.symm)
theorem zwi (ds:List UInt8):Lib.hasPrefix (45::ds) [45]=true:=by simp[Lib.hasPrefix,List.isPrefixOf]
theorem zxd {ds es:List UInt8} (h:zat ds) (h0:0<ds.length):∀ d,(ds++es).head? = some d→d≠45:=fun d hd=>by
 cases ds with
 | nil=>simp at h0
 | cons x xs =>
  simp at hd
  subst hd
  have:=(h x (by simp)).1
  intro e
  rw[e] at this
  exact absurd this (by decide)
theorem qca (t:ByteArray) (ds:List UInt8) (w:World) (ht:t.data.toList=[]++ds) (hd:zat ds) (h0:0<ds.length) (hl:ds.length<1000) :
  Calls prog 310 #[.string t] w fun e w'=>∃ tw:ByteArray,e=.returned (.tuple #[.agg #[.bool false,.string tw,.int .u8 0,.string ⟨#[]⟩,.bool false],.int .i64 (-1)])∧tw.data.toList=ds∧But [] w w':=by(
have htA:t.data.toList=[]++ds++[]:=by rw[List.append_nil];exact ht
have HP:Hid (∀ W,Calls prog 328 #[.string t,.string ⟨#[45]⟩] W fun e w'=>e=.returned (.bool false)∧w'=W):=fun W=>by
 have h:=Tryz.strings_HasPrefix t ⟨#[45]⟩ W
 rw[htA,show (⟨#[45]⟩:ByteArray).data.toList=[45] from rfl,show []++ds++[]=ds++[] from rfl,zre _ (zxd (es:=[]) hd h0)] at h
 exact h
have hszA:t.size=0+ds.length+([]:List UInt8).length:=by
 have:=congrArg List.length htA
 simp only[List.length_append,List.length_nil] at this ⊢
 rw[← this]
 simp
obtain⟨m,hm⟩:∃ m,m=0+ds.length:=⟨_,rfl⟩
have DE:Hid (∀ W,Calls prog 329 #[.string t,.int .i64 0] W fun e w'=>e=.returned (.int .i64 (m:Int))∧w'=W):=fun W=>zhb t _ ds [] 0 W htA (by simp) (by simp) hd (by simp) (by simp;omega) _ (by show _=_;rw[hm])
have hex:(t.extract 0 m).data.toList=ds:=by
 have:=zlg t [] ds [] htA
 rw[hm]
 exact this
have hsz:t.size=m:=by rw[hszA,hm];rfl
have l3:(t.size:Int)≤(m:Int):=by omega
have l4:decide ((m:Int)<(t.size:Int))=false:=decide_eq_false (by omega)
have n1:((m:Int)==0)=false:=beq_eq_false_iff_ne.2 (by omega)
have hm0:0≤(m:Int):=by omega
have hmt:(m:Int)≤(t.size:Int):=by omega
have hm9:m<2000:=by omega
have HEX:=af hex
clear hex ht htA hd h0 hl hszA hm hsz
go_enter func310,ntmps310
go_wp2_with fail
refine (ae HP _).mono ?_
rintro e w1 ⟨rfl,hw⟩
obtain rfl:=hw.symm
clear hw
go_wp2_with fail
refine (ae DE _).mono ?_
rintro e w1 ⟨rfl,hw⟩
obtain rfl:=hw.symm
clear hw
go_wp2
exact bodyPost_ret (v:=.tuple #[.agg #[.bool false,.string (t.extract 0 m),.int .u8 0,.string (⟨#[]⟩),.bool false],.int .i64 (-1)]) (by simp[results,results310,go_sem]) rfl ⟨t.extract 0 m,rfl,ae HEX,((But.refl _ _).alloc _).alloc _⟩)
theorem zoy (t:ByteArray) (ds:List UInt8) (w:World) (ht:t.data.toList=[45]++ds) (hd:zat ds) (h0:0<ds.length) (hl:ds.length<1000) :
  Calls prog 310 #[.string t] w fun e w'=>∃ tw:ByteArray,e=.returned (.tuple #[.agg #[.bool true,.string tw,.int .u8 0,.string ⟨#[]⟩,.bool false],.int .i64 (-1)])∧tw.data.toList=ds∧But [] w w':=by(
have htA:t.data.toList=[45]++ds++[]:=by rw[List.append_nil];exact ht
have HP:Hid (∀ W,Calls prog 328 #[.string t,.string ⟨#[45]⟩] W fun e w'=>e=.returned (.bool true)∧w'=W):=fun W=>by
 have h:=Tryz.strings_HasPrefix t ⟨#[45]⟩ W
 rw[htA,show (⟨#[45]⟩:ByteArray).data.toList=[45] from rfl,show [45]++ds++[]=45::(ds++[]) from rfl,zwi] at h
 exact h
have hszA:t.size=1+ds.length+([]:List UInt8).length:=by
 have:=congrArg List.length htA
 simp only[List.length_append,List.length_cons,List.length_nil] at this ⊢
 rw[← this]
 simp
obtain⟨m,hm⟩:∃ m,m=1+ds.length:=⟨_,rfl⟩
have DE:Hid (∀ W,Calls prog 329 #[.string t,.int .i64 1] W fun e w'=>e=.returned (.int .i64 (m:Int))∧w'=W):=fun W=>zhb t _ ds [] 1 W htA (by simp) (by simp) hd (by simp) (by simp;omega) _ (by show _=_;rw[hm])
have hex:(t.extract 1 m).data.toList=ds:=by
 have:=zlg t [45] ds [] htA
 rw[hm]
 exact this
have hsz:t.size=m:=by rw[hszA,hm];rfl
have l3:(t.size:Int)≤(m:Int):=by omega
have l4:decide ((m:Int)<(t.size:Int))=false:=decide_eq_false (by omega)
have n1:((m:Int)==1)=false:=beq_eq_false_iff_ne.2 (by omega)
have hm0:1≤(m:Int):=by omega
have hmt:(m:Int)≤(t.size:Int):=by omega
have hm9:m<2000:=by omega
have HEX:=af hex
clear hex ht htA hd h0 hl hszA hm hsz
go_enter func310,ntmps310
go_wp2_with fail
refine (ae HP _).mono ?_
rintro e w1 ⟨rfl,hw⟩
obtain rfl:=hw.symm
clear hw
go_wp2_with fail
refine (ae DE _).mono ?_
rintro e w1 ⟨rfl,hw⟩
obtain rfl:=hw.symm
clear hw
go_wp2
exact bodyPost_ret (v:=.tuple #[.agg #[.bool true,.string (t.extract 1 m),.int .u8 0,.string (⟨#[]⟩),.bool false],.int .i64 (-1)]) (by simp[results,results310,go_sem]) rfl ⟨t.extract 1 m,rfl,ae HEX,((But.refl _ _).alloc _).alloc _⟩)
def wrt (s:Bool) (tw:ByteArray) (k:Int) (tb:ByteArray):Value:=.agg #[.bool s,.string tw,.int .u8 k,.string tb,.bool false]
theorem zpc (s:Bool) (tw tb:ByteArray) (w:World) (_h1:tw.size<1000) (_h2:tb.size<1000) :
  Calls prog 311 #[wrt s tw 0 tb] w fun e w'=>e=.returned (.int .i64 ((tw.size:Int)))∧But [] w w':=by(
unfold wrt
go_enter func311,ntmps311
go_wp2
go_ret
exact⟨rfl,(But.refl _ _).alloc _⟩)
theorem zog (s:Bool) (tw tb:ByteArray) (w:World) (_h1:tw.size<1000) (h2:tb.size<1000) :
  Calls prog 312 #[wrt s tw 0 tb] w fun e w'=>e=.returned (.int .i64 (1+(tb.size:Int)))∧But [] w w':=by(
unfold wrt
go_enter func312,ntmps312
go_wp2
go_ret
exact⟨rfl,(But.refl _ _).alloc _⟩)
theorem qbe (s:Bool) (tw:ByteArray) (ds:List UInt8) (w:World) (ht:tw.data.toList=ds) (hd:zat ds) (hl:ds.length<1000) :
  Calls prog 313 #[wrt s tw 0 ⟨#[]⟩] w fun e w'=>∃ v1 v2,e=.returned (.tuple #[v1,v2])∧Sl .u64 w' v1 (wd 18446744073709551616 (jy ds))∧Sl .u64 w' v2 (wd 18446744073709551616 (1))∧But [] w w':=by(
unfold wrt
have RD:=af (fun W=>ztu tw ds W ht hd (by omega))
clear ht hd hl
obtain⟨W,hW⟩:∃ W,W=w.alloc (.cells #[.bool s,.string tw,.int .u8 0,.string ⟨#[]⟩,.bool false] 360):=⟨_,rfl⟩
have c1:W.cell? ⟨w.heap.size,1,none⟩=some (.string tw):=by rw[hW];simp
have c2:W.cell? ⟨w.heap.size,2,none⟩=some (.int .u8 0):=by rw[hW];simp
have c3:W.cell? ⟨w.heap.size,3,none⟩=some (.string ⟨#[]⟩):=by rw[hW];simp
have c4:W.cell? ⟨w.heap.size,4,none⟩=some (.bool false):=by rw[hW];simp
have HB:Hid (But [] w W):=by show But _ _ _;rw[hW];exact (But.refl _ _).alloc _
have HW:=af hW
clear hW
go_enter func313,ntmps313
go_wp2_with fail
rw[← ae HW]
clear HW
generalize w.heap.size=g at *
refine (ae RD _).mono ?_
rintro e w1 ⟨v1,rfl,hv1,hb1⟩
replace c1:=hb1.ag c1 (by simp)
replace c2:=hb1.ag c2 (by simp)
replace c3:=hb1.ag c3 (by simp)
replace c4:=hb1.ag c4 (by simp)
replace HB:Hid (But [] w w1):=(ae HB).trans' hb1
have H1:=af hv1
clear hv1 hb1
go_wp2_with fail
refine (jh 1 (by omega) _).mono ?_
rintro e w2 ⟨v2,rfl,hv2,hb2,-⟩
replace c1:=hb2.ag c1 (by simp)
replace c2:=hb2.ag c2 (by simp)
replace c3:=hb2.ag c3 (by simp)
replace c4:=hb2.ag c4 (by simp)
replace HB:Hid (But [] w w2):=(ae HB).trans' hb2
replace H1:=af ((ae H1).ah hb2)
have H2:=af hv2
clear hv2 hb2
go_wp2
go_ret2
exact⟨v1,v2,rfl,ae H1,ae H2,ae HB⟩)
theorem qal (t:ByteArray) (s:Bool) (k n1 n2:Int) (P:ByteArray→ByteArray→Prop) (h1:n1≤60) (h2:n2≤60) (X Y:Nat) (hY:0<Y) (lx:(wd 18446744073709551616 X).length≤1000000) (ly:(wd 18446744073709551616 Y).length≤1000000) (f:Rat) (hf:f.num*(Y:Int)=sgn s X*(f.den:Int)) (w:World)
  (CU:Hid (∀ W,Calls prog 310 #[.string t] W fun e w'=>∃ tw tb,e=.returned (.tuple #[.agg #[.bool s,.string tw,.int .u8 k,.string tb,.bool false],.int .i64 (-1)])∧P tw tb∧But [] W w'))
  (AB:Hid (∀ tw tb,P tw tb→∀ W,Calls prog 311 #[.agg #[.bool s,.string tw,.int .u8 k,.string tb,.bool false]] W fun e w'=>e=.returned (.int .i64 n1)∧But [] W w'))
  (UN:Hid (∀ tw tb,P tw tb→∀ W,Calls prog 312 #[.agg #[.bool s,.string tw,.int .u8 k,.string tb,.bool false]] W fun e w'=>e=.returned (.int .i64 n2)∧But [] W w'))
  (NU:Hid (∀ tw tb,P tw tb→∀ W,Calls prog 313 #[.agg #[.bool s,.string tw,.int .u8 k,.string tb,.bool false]] W fun e w'=>∃ v1 v2,e=.returned (.tuple #[v1,v2])∧Sl .u64 w' v1 (wd 18446744073709551616 X)∧Sl .u64 w' v2 (wd 18446744073709551616 Y)∧But [] W w')) :
  Calls prog 284 #[.string t] w fun e w'=>∃ v,e=.returned (.tuple #[v,.nilIface])∧aq w' v f∧But [] w w':=by(
have hyl:0<(wd 18446744073709551616 Y).length:=by rw[Nat.pos_iff_ne_zero];intro e;rw[zh (by omega)] at e;omega
have ON:=af (fun (W:World) (v1 v2:Value) (a:Sl .u64 W v1 (wd 18446744073709551616 X)) (b:Sl .u64 W v2 (wd 18446744073709551616 Y))=>zoq s v1 v2 X Y W a b hY lx ly f hf)
have d1:decide (60<n1)=false:=decide_eq_false (by omega)
have d2:decide (60<n2)=false:=decide_eq_false (by omega)
obtain⟨W,hW⟩:∃ W,W=w.alloc (.cells #[.bool false,.int .u64 0,.int .u64 0,.pointer none] 27):=⟨_,rfl⟩
have r0:W.cell? ⟨w.heap.size,0,none⟩=some (.bool false):=by rw[hW];simp
have r1:W.cell? ⟨w.heap.size,1,none⟩=some (.int .u64 0):=by rw[hW];simp
have r2:W.cell? ⟨w.heap.size,2,none⟩=some (.int .u64 0):=by rw[hW];simp
have r3:W.cell? ⟨w.heap.size,3,none⟩=some (.pointer none):=by rw[hW];simp
have fz:∀ j,W.frozen? ⟨w.heap.size,j,none⟩=false:=fun j=>by rw[hW];simp
have BL:Hid (Blank W w.heap.size):=⟨r0,r1,r2,r3,fun j hj=>by rw[hW,World.cell?_alloc_new];simp;omega⟩
have HB:Hid (But [] w W):=by show But _ _ _;rw[hW];exact (But.refl _ _).alloc _
have HW:=af hW
clear hW hf lx ly hY
go_enter func284,ntmps284
go_wp2_with fail
rw[← ae HW]
obtain⟨gr,hgr⟩:∃ gr,gr=w.heap.size:=⟨_,rfl⟩
rw[← hgr] at r0 r1 r2 r3 fz BL
rw[← hgr]
have HGR:Hid (w.heap.size≤gr):=by show _≤_;omega
clear hgr HW
have grl:gr<W.heap.size:=ai r0
refine (ae CU _).mono ?_
rintro e w1 ⟨tw,tb,rfl,hP,hb1⟩
have AB':=af (ae AB tw tb hP)
have UN':=af (ae UN tw tb hP)
have NU':=af (ae NU tw tb hP)
have KW:=af hb1
clear AB UN NU CU hP hb1
go_wp2_with fail
obtain⟨W1,hW1⟩:∃ W1,W1=w1.alloc (.cells #[.bool s,.string tw,.int .u8 k,.string tb,.bool false] 360):=⟨_,rfl⟩
have c0:W1.cell? ⟨w1.heap.size,0,none⟩=some (.bool s):=by rw[hW1];simp
have c1:W1.cell? ⟨w1.heap.size,1,none⟩=some (.string tw):=by rw[hW1];simp
have c2:W1.cell? ⟨w1.heap.size,2,none⟩=some (.int .u8 k):=by rw[hW1];simp
have c3:W1.cell? ⟨w1.heap.size,3,none⟩=some (.string tb):=by rw[hW1];simp
have c4:W1.cell? ⟨w1.heap.size,4,none⟩=some (.bool false):=by rw[hW1];simp
have KW1:Hid (But [] W W1):=by show But _ _ _;rw[hW1];exact (ae KW).alloc _
rw[← hW1]
clear hW1 KW
generalize w1.heap.size=gw at *
refine (ae AB' _).mono ?_
rintro e w2 ⟨rfl,hb⟩
replace c0:=hb.ag c0 (by simp)
replace c1:=hb.ag c1 (by simp)
replace c2:=hb.ag c2 (by simp)
replace c3:=hb.ag c3 (by simp)
replace c4:=hb.ag c4 (by simp)
replace KW1:Hid (But [] W w2):=(ae KW1).trans' hb
clear hb
go_wp2_with fail
refine (ae UN' _).mono ?_
rintro e w3 ⟨rfl,hb⟩
replace c0:=hb.ag c0 (by simp)
replace c1:=hb.ag c1 (by simp)
replace c2:=hb.ag c2 (by simp)
replace c3:=hb.ag c3 (by simp)
replace c4:=hb.ag c4 (by simp)
replace KW1:Hid (But [] W w3):=(ae KW1).trans' hb
clear hb
go_wp2_with fail
refine (ae NU' _).mono ?_
rintro e w4 ⟨v1,v2,rfl,hv1,hv2,hb⟩
replace c0:=hb.ag c0 (by simp)
replace c1:=hb.ag c1 (by simp)
replace c2:=hb.ag c2 (by simp)
replace c3:=hb.ag c3 (by simp)
replace c4:=hb.ag c4 (by simp)
replace KW1:Hid (But [] W w4):=(ae KW1).trans' hb
have H1:=af hv1
have H2:=af hv2
obtain⟨a2,e2,rfl,-,-⟩:=hv2
clear hv1
clear hb
generalize (wd 18446744073709551616 Y).length=ny at *
have n0:((ny:Int)==0)=false:=beq_eq_false_iff_ne.2 (by omega)
go_wp2_with fail
refine (ae ON _ v1 _ (ae H1) (ae H2)).mono ?_
rintro e w5 ⟨vr,rfl,hvr,hb⟩
have K5:But [] W w5:=(ae KW1).trans' hb
have B5:Hid (But [] w w5):=(ae HB).trans' K5
have HVR:=af hvr
obtain⟨x8,y8,p8,rfl,-⟩:=hvr.agg
generalize decide (f.num<0)=r8 at *
have u0:=K5.ag r0 (by simp)
have u1:=K5.ag r1 (by simp)
have u2:=K5.ag r2 (by simp)
have u3:=K5.ag r3 (by simp)
have uf:∀ j,w5.frozen? ⟨gr,j,none⟩=false:=fun j=>(K5.frozen (p:=⟨gr,j,none⟩) grl (by simp)).trans (fz j)
have BL5:Hid (Blank w5 gr):=(ae BL).but K5
clear hvr hb K5 r0 r1 r2 r3 fz grl c0 c1 c2 c3 c4
go_wp2
have hBg:But [gr] w5 ((((w5.setCell ⟨gr,0,none⟩ (.bool r8)).setCell ⟨gr,1,none⟩ (.int .u64 x8)).setCell ⟨gr,2,none⟩ (.int .u64 y8)).setCell ⟨gr,3,none⟩ (.pointer p8)):=(((((But.refl [gr] w5).setCell (.inl (by simp)) _).setCell (.inl (by simp)) _).setCell (.inl (by simp)) _).setCell (.inl (by simp)) _)
have hBf:=((((ae B5).setCell (p:=⟨gr,0,none⟩) (.inr (ae HGR)) (.bool r8)).setCell (p:=⟨gr,1,none⟩) (.inr (ae HGR)) (.int .u64 x8)).setCell (p:=⟨gr,2,none⟩) (.inr (ae HGR)) (.int .u64 y8)).setCell (p:=⟨gr,3,none⟩) (.inr (ae HGR)) (.pointer p8)
exact bodyPost_ret (v:=.tuple #[.agg #[.bool r8,.int .u64 x8,.int .u64 y8,.pointer p8],.nilIface]) (by simp[results,results284,go_sem,u0,u1,u2,u3]) rfl ⟨_,rfl,(ae BL5).zke (ae HVR) hBg,hBf⟩)
theorem zxb {ds:List UInt8} (hd:zat ds) (hl:ds.length≤1000000):(wd 18446744073709551616 (jy ds)).length≤1000000 :=
 Nat.le_trans (aj (B:=18446744073709551616) (by omega) _ ds.length (Nat.lt_of_lt_of_le (zlz hd) (Nat.pow_le_pow_left (by omega) _))) hl
theorem zcd {t:ByteArray} {ds:List UInt8} (h:t.data.toList=ds):t.size=ds.length:=by rw[← h];simp
def sg (s:Bool):List UInt8:=if s then [45] else []
theorem ztk (t:ByteArray) (s:Bool) (ds:List UInt8) (w:World) (ht:t.data.toList=sg s++ds) (hd:zat ds) (h0:0<ds.length) (hl:ds.length≤60) (f:Rat) (hf:f.num=sgn s (jy ds)*(f.den:Int)) :
  Calls prog 284 #[.string t] w fun e w'=>∃ v,e=.returned (.tuple #[v,.nilIface])∧aq w' v f∧But [] w w':=by(
refine qal t s 0 (ds.length:Int) 1 (fun tw tb=>tw.data.toList=ds∧tb=⟨#[]⟩) (by omega) (by omega) (jy ds) 1 (by omega) (zxb hd (by omega)) (Nat.le_trans (aj (by omega) _ 1 (by omega)) (by omega)) f (by simpa using hf) w ?_ ?_ ?_ ?_
·(
intro W
cases s
·refine (qca t ds W ht hd h0 (by omega)).mono ?_
 rintro e w' ⟨tw,rfl,h1,h2⟩
 exact⟨tw,⟨#[]⟩,rfl,⟨h1,rfl⟩,h2⟩
·refine (zoy t ds W ht hd h0 (by omega)).mono ?_
 rintro e w' ⟨tw,rfl,h1,h2⟩
 exact⟨tw,⟨#[]⟩,rfl,⟨h1,rfl⟩,h2⟩)
·rintro tw tb ⟨h1,rfl⟩ W
 have h:=zpc s tw ⟨#[]⟩ W (by rw[zcd h1];omega) (by decide)
 rw[zcd h1] at h
 exact h
·rintro tw tb ⟨h1,rfl⟩ W
 exact zog s tw ⟨#[]⟩ W (by rw[zcd h1];omega) (by decide)
·rintro tw tb ⟨h1,rfl⟩ W
 exact qbe s tw ds W h1 hd (by omega))
end Go.Proofs.YtpmjeclpkahkmaaGreatDoor
