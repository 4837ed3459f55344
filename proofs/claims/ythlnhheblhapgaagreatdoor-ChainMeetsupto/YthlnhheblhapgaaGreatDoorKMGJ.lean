/- Rows of chances over one lower number; a -/
import Derived.Test.YthlnhheblhapgaaGreatDoorKMGH
import Derived.Test.YthlnhheblhapgaaGreatDoorKMKNz
import Derived.Test.YthlnhheblhapgaaGreatDoorKMZQr
namespace Go.Proofs.YthlnhheblhapgaaGreatDoor
open Go.RowKit
set_option maxHeartbeats 16000000
set_option maxRecDepth 100000
def RwNew (B n:Nat) (R:Nat→Rat) (U:Rat) (w:World) (v:Value):Prop:=∃ g s x y p,v=.agg #[.slice (some ⟨g,0,none⟩) n n,.bool s,.int .u64 x,.int .u64 y,.pointer p]∧NewR B w g n R∧FracAt w (.agg #[.bool s,.int .u64 x,.int .u64 y,.pointer p]) U
theorem RowOf.congr {w:World} {g n:Nat} {F G:Nat→Rat} (h:RowOf w g n F) (e:∀ k,k<n→F k=G k):RowOf w g n G:=⟨fun k hk=>e k hk ▸ h.told k hk,h.loose⟩
def rwU (fs:List Rat):Rat:=(((comN 1 fs:Nat):Int):Rat)
theorem len_rwU {fs:List Rat} {c:Nat} (lf:∀ f ∈ fs,Len f c):Len (rwU fs) (fs.length*c+1):=by
 have:=comN_len c fs 1 lf
 have h1':(wd 18446744073709551616 1).length≤1:=wd_length_le (by omega) _ 1 (by omega)
 obtain ⟨e1,e2⟩:=int_parts (((comN 1 fs:Nat):Int))
 refine ⟨?_,?_⟩
 ·unfold rwU;rw [e1,Int.natAbs_natCast];omega
 ·unfold rwU;rw [e2];exact Nat.le_trans h1' (by omega)
theorem rowOf_any (q:Option Addr) (n cap c:Nat) (fs:List Rat) (m:Int) (w:World) (hv:FracsAt w (.slice q n cap) fs) (hN:n=fs.length) (h8:n≤8) (lf:∀ f ∈ fs,Len f c) (hc:c≤20000) (htab:Lib.TabIs Tryz.prog w "internal/strconv.uint64pow10" .u64 Lib.pow10Tab) (hm:w.cell? ⟨4,0,none⟩=some (.int .i64 m)) :
  Calls Tryz.prog 26 #[.slice q n cap] w fun e w'=>∃ v,e=.returned v∧RwNew w.heap.size n (fun k=>fs[k]?.getD 0*rwU fs) (rwU fs) w' v∧But [] w w':=by
 have hnc:n*c≤8*20000:=Nat.mul_le_mul h8 hc
 have LU:Len (rwU fs) 170000:=(len_rwU lf).mono (by rw [← hN];omega)
 obtain ⟨V1,hV1⟩:∃ V1,V1=w.alloc (.cells #[.slice none 0 0,.bool false,.int .u64 0,.int .u64 0,.pointer none] 68):=⟨_,rfl⟩
 obtain ⟨V2,hV2⟩:∃ V2,V2=V1.alloc (.cells #[.slice q n cap] 32):=⟨_,rfl⟩
 have b1:But [] w V1:=by rw [hV1];exact (But.refl _ _).alloc _
 have b2:But [] V1 V2:=by rw [hV2];exact (But.refl _ _).alloc _
 have e1:V1.heap.size=w.heap.size+1:=by rw [hV1];simp
 have x2:NewB w.heap.size V1 w.heap.size [.slice none 0 0,.bool false,.int .u64 0,.int .u64 0,.pointer none]:=by rw [hV1];exact NewB.made _ w [.slice none 0 0,.bool false,.int .u64 0,.int .u64 0,.pointer none] _ (Nat.le_refl _)
 have hL:ListsAt V2 (.slice (some ⟨w.heap.size+1,0,none⟩) 1 1) [fs]:=by
  refine ⟨_,1,rfl,by simp,fun i l hl=>?_⟩
  have hi:i=0:=by
   rcases Nat.eq_zero_or_pos i with h | h
   ·exact h
   ·rw [List.getElem?_eq_none (by simp;omega)] at hl;simp at hl
  subst hi
  simp at hl
  subst hl
  refine ⟨_,0,_,rfl,?_,hv.but (b1.trans' b2)⟩
  rw [hV2,← e1]
  simp
 have bb:=b1.trans' b2
 have CO:=hide (in_parts (common_any _ [fs] V2 m c hL (by simp) (fun l hl=>by simp at hl;subst hl;omega) (fun l hl=>by simp at hl;subst hl;exact lf) (by simp;rw [← hN];omega) (by omega) (TabIs.but htab bb) (bb.cell_some hm (by simp))))
 simp only [List.flatten_cons,List.flatten_nil,List.append_nil] at CO
 have TI:=hide (fun (W0 W:World) (hb0:But [] w W0) (hb:But [] W0 W) (vu:Value) (hU:FracAt W vu (rwU fs))=>show Calls Tryz.prog 46 #[.slice q n cap,vu] W fun e w'=>∃ g,e=.returned (.slice (some ⟨g,0,none⟩) n n)∧NewR W0.heap.size w' g n (fun k=>fs[k]?.getD 0*rwU fs)∧But [] W w' from by
  refine (times_any _ vu fs _ W (hv.but (hb0.trans' hb)) hU (by omega) (fun f hf'=>(lf f hf').mono (by omega)) (LU.mono (by omega))).mono ?_
  rintro e w' ⟨g,he,hrow,hg1,hg2,hb'⟩
  rw [← hN] at he hrow
  exact ⟨g,he,⟨⟨hrow.told,hrow.loose⟩,Nat.le_trans hb.size hg1,hg2⟩,hb'⟩)
 have X2:=hide (x2.but b2)
 have B2:=hide bb
 have HW:=hide (hV2.trans (by rw [hV1]))
 have l2:w.heap.size<V2.heap.size:=(x2.but b2).lt
 clear hv hN lf htab hm LU x2 b1 b2 bb e1 hL hV1 hV2 hnc V1
 go_enter Tryz.func26,Tryz.ntmps26
 go_wp2_with fail
 rw [← unhide HW]
 refine (unhide CO).mono ?_
 rintro e w1 ⟨s1,x1,y1,p1,rfl,hf1,hb1⟩
 have bA:But [] w1 (w1.alloc (.cells #[.bool s1,.int .u64 x1,.int .u64 y1,.pointer p1] 41)):=(But.refl _ _).alloc _
 have x3:=BoxAt.new w1 s1 x1 y1 p1 _ 41 hf1
 have c3:P4o (w1.alloc (.cells #[.bool s1,.int .u64 x1,.int .u64 y1,.pointer p1] 41)) w1.heap.size 0 s1 x1 y1 p1:=⟨by simp,by simp,by simp,by simp⟩
 have F1:=hide (hf1.but bA)
 have B3:=hide (((unhide B2).trans' hb1).trans' bA)
 have X3:=hide (((unhide X2).but hb1).but bA)
 have C3:=hide c3
 clear hf1 hb1 bA x3 c3 CO B2 X2 HW
 go_wp2_with fail
 generalize w1.alloc (.cells #[.bool s1,.int .u64 x1,.int .u64 y1,.pointer p1] 41)=V3 at *
 generalize hg3:w1.heap.size=g3 at *
 generalize hg2:w.heap.size=g2 at *
 have Q2:Hid (w.heap.size≤g2):=by show _≤_;omega
 have x2:=unhide X3
 refine rowOf_region2 2 _ _ V3 q n cap g2 g3 (fun k=>fs[k]?.getD 0*rwU fs) s1 x1 y1 p1 (by simp) (by simp [Act.eval]) (by simp [Act.eval]) (by simp [Act.eval]) (unhide C3) (fun k hk=>⟨_,x2.cells k _ (List.getElem?_eq_getElem (by simpa using hk))⟩) x2.loose (fun W hb=>unhide TI V3 W (unhide B3) hb _ ((unhide F1).but hb)) ?_
 intro gr w4 hP
 simp only [putted,List.foldl_cons,List.foldl_nil,Act.put,List.setIfInBounds_toArray,List.set_cons_zero,List.set_cons_succ]
 have y2:=(x2.but hP.mem).put (us:=[.slice (some ⟨gr,0,none⟩) n n,.bool s1,.int .u64 x1,.int .u64 y1,.pointer p1]) rfl
 have hb4:=but_setCells w4 g2 [.slice (some ⟨gr,0,none⟩) n n,.bool s1,.int .u64 x1,.int .u64 y1,.pointer p1] 0
 have hr:=hP.f2 rfl
 have hs1:=(x2.but hP.mem).cells 1 _ rfl
 have hgr:gr ∉ [g2]:=by
  have h1:=hr.new
  have h2:=x2.lt
  simp
  omega
 have hc1:∀ g ∈ [g2],∃ s,w4.cell? ⟨g,1,none⟩=some (.bool s):=fun g hg=>by simp at hg;subst hg;exact ⟨_,hs1⟩
 have FR:Hid (RowOf (w4.setCells g2 0 [.slice (some ⟨gr,0,none⟩) n n,.bool s1,.int .u64 x1,.int .u64 y1,.pointer p1]) gr n (fun k=>fs[k]?.getD 0*rwU fs)):=⟨hr.row.rowR.besideY hb4 hc1,fun o=>(hb4.frozen (p:=⟨gr,o,none⟩) hr.lt hgr).trans (hr.row.loose o)⟩
 have FU:=hide (((unhide F1).but hP.mem).besideY hb4 hc1)
 have BF:=hide (((unhide B3).trans' hP.mem).trans hb4 (fun x hx=>by simp at hx;subst hx;exact .inr (unhide Q2)))
 have LF:Hid (gr<(w4.setCells g2 0 [.slice (some ⟨gr,0,none⟩) n n,.bool s1,.int .u64 x1,.int .u64 y1,.pointer p1]).heap.size):=Nat.lt_of_lt_of_le hr.lt hb4.size
 have NF:Hid (w.heap.size≤gr):=by have:=hr.new;have:=x2.lt;have:=unhide Q2;show _≤_;omega
 have m0:=y2.cells 0 _ rfl
 have m1:=y2.cells 1 _ rfl
 have m2:=y2.cells 2 _ rfl
 have m3:=y2.cells 3 _ rfl
 have m4:=y2.cells 4 _ rfl
 clear y2 hb4 hr hs1 hgr hc1 hP x2 X3 F1 B3 C3
 generalize w4.setCells g2 0 [.slice (some ⟨gr,0,none⟩) n n,.bool s1,.int .u64 x1,.int .u64 y1,.pointer p1]=F at *
 go_wp2
 exact bodyPost_ret (v:=.agg #[.slice (some ⟨gr,0,none⟩) n n,.bool s1,.int .u64 x1,.int .u64 y1,.pointer p1]) (by simp [results,Tryz.results26,go_sem,m0,m1,m2,m3,m4]) rfl ⟨_,rfl,⟨gr,s1,x1,y1,p1,rfl,⟨unhide FR,unhide NF,unhide LF⟩,unhide FU⟩,unhide BF⟩
end Go.Proofs.YthlnhheblhapgaaGreatDoor

namespace Go.Proofs.YthlnhheblhapgaaGreatDoor
open Go.RowKit
set_option maxHeartbeats 32000000
set_option maxRecDepth 100000
theorem isN_sg (F:Nat→Rat) (M:Nat):∀ n,(∀ k,k<n→isN (F k) M)→isN (sgR F n) (n*M)
 | 0,_=>isN_zero _
 | n+1,h=>by
  show isN (sgR F n+F n) _
  exact ((isN_sg F M n (fun k hk=>h k (by omega))).add (h n (by omega))).mono (by rw [Nat.succ_mul];omega)
theorem isN_prod {x y:Rat} {a b:Nat} (hx:isN x (18446744073709551616^a)) (hy:isN y (18446744073709551616^b)):isN (x*y) (18446744073709551616^(a+b)):=by
 rw [Nat.pow_add];exact hx.mul hy
theorem isN_mv {R:Nat→Rat} {Y:Nat→Nat→Rat} {n c v:Nat} (hn:n≤8) (hR:∀ k,k<n→isN (R k) (18446744073709551616^c)) (hY:∀ i k,i<n→k<n→isN (Y i k) (18446744073709551616^v)) (k:Nat) (hk:k<n) (m:Nat) (hm:m≤n):isN (sgR (fun i=>R i*Y i k) m) (18446744073709551616^(c+v+1)):=by
 have h:=isN_sg (fun i=>R i*Y i k) (18446744073709551616^(c+v)) m (fun i hi=>isN_prod (hR i (by omega)) (hY i k (by omega) hk))
 refine h.mono ?_
 rw [Nat.pow_succ,Nat.mul_comm]
 exact Nat.mul_le_mul_left _ (by omega)
theorem NewR.put {B:Nat} {w:World} {g n:Nat} {F:Nat→Rat} (h:NewR B w g n F) {k:Nat} (hk:k<n) (s1:Bool) (x1 y1:Int) (p1:Option Addr) (v:Rat) (h1:FracAt w (.agg #[.bool s1,.int .u64 x1,.int .u64 y1,.pointer p1]) v):NewR B (w.setCells g (k*4) [.bool s1,.int .u64 x1,.int .u64 y1,.pointer p1]) g n (setF F k v) :=
 ⟨h.row.set hk s1 x1 y1 p1 v h1,h.new,Nat.lt_of_lt_of_le h.lt (but_setCells w g _ _).size⟩
theorem behind_any (gR n:Nat) (s1:Bool) (x1 y1:Int) (p1:Option Addr) (gY:Nat) (s2:Bool) (x2 y2:Int) (p2:Option Addr) (R:Nat→Rat) (U:Rat) (Y:Nat→Nat→Rat) (V:Rat) (c v:Nat) (w:World) (hR:RowR w gR n R) (hU:FracAt w (.agg #[.bool s1,.int .u64 x1,.int .u64 y1,.pointer p1]) U) (hY:MatR w gY n Y) (hV:FracAt w (.agg #[.bool s2,.int .u64 x2,.int .u64 y2,.pointer p2]) V) (h1:1≤n) (h8:n≤8)
  (lU:Len U 499000) (lV:Len V 499000) (nR:∀ k,k<n→isN (R k) (18446744073709551616^c)) (nY:∀ i k,i<n→k<n→isN (Y i k) (18446744073709551616^v)) (hc:c+v+2≤399000) :
  Calls Tryz.prog 31 #[.agg #[.slice (some ⟨gR,0,none⟩) n n,.bool s1,.int .u64 x1,.int .u64 y1,.pointer p1],.agg #[.slice (some ⟨gY,0,none⟩) n n,.bool s2,.int .u64 x2,.int .u64 y2,.pointer p2]] w fun e w'=>∃ u,e=.returned u∧RwNew w.heap.size n (mvR R Y n) (U*V) w' u∧But [] w w':=by
 have hn:n<1000000:=by omega
 obtain ⟨V1,hV1⟩:∃ V1,V1=w.alloc (.cells #[.slice (some ⟨gR,0,none⟩) n n,.bool s1,.int .u64 x1,.int .u64 y1,.pointer p1] 68):=⟨_,rfl⟩
 obtain ⟨V2,hV2⟩:∃ V2,V2=V1.alloc (.cells #[.slice (some ⟨gY,0,none⟩) n n,.bool s2,.int .u64 x2,.int .u64 y2,.pointer p2] 76):=⟨_,rfl⟩
 obtain ⟨V3,hV3⟩:∃ V3,V3=V2.alloc (.cells #[.slice none 0 0,.bool false,.int .u64 0,.int .u64 0,.pointer none] 68):=⟨_,rfl⟩
 have b1:But [] w V1:=by rw [hV1];exact (But.refl _ _).alloc _
 have b2:But [] V1 V2:=by rw [hV2];exact (But.refl _ _).alloc _
 have b3:But [] V2 V3:=by rw [hV3];exact (But.refl _ _).alloc _
 have e1:V1.heap.size=w.heap.size+1:=by rw [hV1];simp
 have e2:V2.heap.size=w.heap.size+1+1:=by rw [hV2,← e1];simp
 have z2:NewB w.heap.size V3 w.heap.size [.slice (some ⟨gR,0,none⟩) n n,.bool s1,.int .u64 x1,.int .u64 y1,.pointer p1]:=by
  have h:NewB w.heap.size V1 w.heap.size [.slice (some ⟨gR,0,none⟩) n n,.bool s1,.int .u64 x1,.int .u64 y1,.pointer p1]:=by rw [hV1];exact NewB.made _ w [.slice (some ⟨gR,0,none⟩) n n,.bool s1,.int .u64 x1,.int .u64 y1,.pointer p1] _ (Nat.le_refl _)
  exact (h.but b2).but b3
 have z3:NewB w.heap.size V3 (w.heap.size+1) [.slice (some ⟨gY,0,none⟩) n n,.bool s2,.int .u64 x2,.int .u64 y2,.pointer p2]:=by
  have h:NewB w.heap.size V2 V1.heap.size [.slice (some ⟨gY,0,none⟩) n n,.bool s2,.int .u64 x2,.int .u64 y2,.pointer p2]:=by rw [hV2];exact NewB.made _ V1 [.slice (some ⟨gY,0,none⟩) n n,.bool s2,.int .u64 x2,.int .u64 y2,.pointer p2] _ (by omega)
  rw [e1] at h
  exact h.but b3
 have z4:NewB w.heap.size V3 (w.heap.size+1+1) [.slice none 0 0,.bool false,.int .u64 0,.int .u64 0,.pointer none]:=by
  have h:NewB w.heap.size V3 V2.heap.size [.slice none 0 0,.bool false,.int .u64 0,.int .u64 0,.pointer none]:=by rw [hV3];exact NewB.made _ V2 [.slice none 0 0,.bool false,.int .u64 0,.int .u64 0,.pointer none] _ (by omega)
  rw [e2] at h
  exact h
 have B3:=hide ((b1.trans' b2).trans' b3)
 have Z:=hide (And.intro z2 (And.intro z3 z4))
 have HW:=hide (hV3.trans (by rw [hV2,hV1]))
 have HR:=hide hR
 have HU:=hide hU
 have HY:=hide hY
 have HV:=hide hV
 have MU:=hide (fun W (hb:But [] w W)=>in_prod (fracMul_any _ _ U V W (hU.but hb) (hV.but hb) (lU.mono (by omega)) (lV.mono (by omega))))
 have SG:=hide (fun W (hb:But [] w W) v k (hv:FracAt W v (R k))=>fracSign_any v (R k) W hv)
 have NR:=hide nR
 have NY:=hide nY
 clear b1 b2 b3 z2 z3 z4 hV1 hV2 hV3 e1 e2 hR hU hY hV nR nY lU lV V1 V2
 go_enter Tryz.func31,Tryz.ntmps31
 go_wp2_with fail
 rw [← unhide HW]
 clear HW
 obtain ⟨g2,hg2⟩:∃ g2,g2=w.heap.size:=⟨_,rfl⟩
 obtain ⟨g3,hg3⟩:∃ g3,g3=w.heap.size+1:=⟨_,rfl⟩
 obtain ⟨g4,hg4⟩:∃ g4,g4=w.heap.size+1+1:=⟨_,rfl⟩
 rw [← hg4,← hg3,← hg2] at Z
 rw [← hg4,← hg3,← hg2]
 have o34:g2<g3∧g3<g4:=by omega
 have Q2:Hid (w.heap.size≤g2):=by show _≤_;omega
 clear hg2 hg3 hg4
 obtain ⟨z2,z3,z4⟩:=unhide Z
 refine behind_region1 1 _ _ V3 g2 g3 gR n (U*V) s1 x1 y1 p1 s2 x2 y2 p2 (by simp) (by simp [Act.eval]) (by simp [Act.eval]) hn (z2.cells 0 _ rfl) ⟨z2.cells 1 _ rfl,z2.cells 2 _ rfl,z2.cells 3 _ rfl,z2.cells 4 _ rfl⟩ ⟨z3.cells 1 _ rfl,z3.cells 2 _ rfl,z3.cells 3 _ rfl,z3.cells 4 _ rfl⟩ (fun W hb=>unhide MU W ((unhide B3).trans' hb)) ?_
 intro gn z g5 w1 hP
 simp only [putted,List.foldl_cons,List.foldl_nil,Act.put,List.setIfInBounds_toArray,List.set_cons_zero,List.set_cons_succ]
 obtain ⟨s5,x5,y5,p5⟩:=z
 simp only at hP ⊢
 obtain ⟨V5,hV5⟩:∃ V5,V5=w1.setCells g5 0 [.slice (some ⟨gn,0,none⟩) n n,.bool s5,.int .u64 x5,.int .u64 y5,.pointer p5]:=⟨_,rfl⟩
 have b5:But [g5] w1 V5:=by rw [hV5];exact but_setCells w1 g5 _ 0
 have t5:=hP.f10 rfl
 have tn:=hP.f3 rfl
 have hgn5:gn ∉ [g5]:=by simpa using hP.x3_10 rfl rfl
 have hc1:∀ g ∈ [g5],∃ s,w1.cell? ⟨g,1,none⟩=some (.bool s):=fun g hg=>by simp at hg;subst hg;exact ⟨_,t5.cells 1 _ rfl⟩
 have l4:g4<V3.heap.size:=z4.lt
 have o5:g4<g5:=Nat.lt_of_lt_of_le l4 t5.new
 have on:g4<gn:=Nat.lt_of_lt_of_le l4 tn.new
 have q5:NewB g2 V5 g5 [.slice (some ⟨gn,0,none⟩) n n,.bool s5,.int .u64 x5,.int .u64 y5,.pointer p5]:=by
  have:=t5.put (us:=[.slice (some ⟨gn,0,none⟩) n n,.bool s5,.int .u64 x5,.int .u64 y5,.pointer p5]) rfl
  rw [← hV5] at this
  exact ⟨this.cells,this.loose,by omega,this.lt⟩
 have qn:NewR g2 V5 gn n (fun _=>0):=⟨⟨tn.row.rowR.besideY b5 hc1,fun o=>(b5.frozen (p:=⟨gn,o,none⟩) tn.lt hgn5).trans (tn.row.loose o)⟩,by omega,Nat.lt_of_lt_of_le tn.lt b5.size⟩
 have qf:=(hP.f8 rfl).besideY b5 hc1
 have q2:=(z2.but hP.mem).beside b5 (by simp;omega)
 have q3:=(z3.but hP.mem).beside b5 (by simp;omega)
 have q4:=(z4.but hP.mem).beside b5 (by simp;omega)
 have bw:=((unhide B3).trans' hP.mem).trans b5 (fun x hx=>by simp at hx;subst hx;exact .inr (by have:=unhide Q2;omega))
 have II:Hid (NewR g2 V5 gn n (fun t=>sgR (fun i=>R i*Y i t) 0)∧NewB g2 V5 g5 [.slice (some ⟨gn,0,none⟩) n n,.bool s5,.int .u64 x5,.int .u64 y5,.pointer p5]∧FracAt V5 (.agg #[.bool s5,.int .u64 x5,.int .u64 y5,.pointer p5]) (U*V)∧NewB g2 V5 g2 [.slice (some ⟨gR,0,none⟩) n n,.bool s1,.int .u64 x1,.int .u64 y1,.pointer p1]∧NewB g2 V5 g3 [.slice (some ⟨gY,0,none⟩) n n,.bool s2,.int .u64 x2,.int .u64 y2,.pointer p2]∧NewB g2 V5 g4 [.slice none 0 0,.bool false,.int .u64 0,.int .u64 0,.pointer none]∧But [] w V5):=⟨qn,q5,qf,q2,q3,q4,bw⟩
 rw [← hV5]
 have r0:=q2.cells 0 _ rfl
 clear hP b5 t5 tn hgn5 hc1 l4 q5 qn qf q2 q3 q4 bw z2 z3 z4 Z B3 MU hV5 w1
 go_wp2
 clear r0
 go_loopw [21] (fun iv wr=>∃ i:Nat,i≤n∧iv=.int .i64 (i:Int)∧Hid (NewR g2 wr gn n (fun t=>sgR (fun i=>R i*Y i t) i)∧NewB g2 wr g5 [.slice (some ⟨gn,0,none⟩) n n,.bool s5,.int .u64 x5,.int .u64 y5,.pointer p5]∧FracAt wr (.agg #[.bool s5,.int .u64 x5,.int .u64 y5,.pointer p5]) (U*V)∧NewB g2 wr g2 [.slice (some ⟨gR,0,none⟩) n n,.bool s1,.int .u64 x1,.int .u64 y1,.pointer p1]∧NewB g2 wr g3 [.slice (some ⟨gY,0,none⟩) n n,.bool s2,.int .u64 x2,.int .u64 y2,.pointer p2]∧NewB g2 wr g4 [.slice none 0 0,.bool false,.int .u64 0,.int .u64 0,.pointer none]∧But [] w wr)) (fun iv _=>n-(intOf iv).toNat)
 case atStart=>exact ⟨0,Nat.zero_le _,rfl,unhide II⟩
 case round =>
  obtain ⟨i,hi,rfl,HI⟩:=hrel
  rename World=>wr
  clear II
  by_cases hlt:i<n
  ·obtain ⟨qn,q5,qf,q2,q3,q4,bw⟩:=unhide HI
   have r0:=q2.cells 0 _ rfl
   obtain ⟨sr,xr,yr,pr,⟨d0,d1,d2,d3⟩,hfr⟩:=((unhide HR).but bw) i hlt
   have SI:=hide (unhide SG wr bw _ i hfr)
   clear qn q5 qf q2 q3 q4 bw hfr
   by_cases hz:(R i).num=0
   ·have hR0:Hid (R i=0):=Rat.num_eq_zero.1 hz
    rw [hz] at SI
    have hs0:Int.sign 0=0:=rfl
    rw [hs0] at SI
    clear hz
    go_wp2_with fail
    refine (unhide SI).mono ?_
    rintro e w2 ⟨rfl,hb2⟩
    obtain ⟨qn,q5,qf,q2,q3,q4,bw⟩:=unhide HI
    have JJ:=hide (And.intro ((qn.but hb2).row.congr (G:=fun t=>sgR (fun i=>R i*Y i t) (i+1)) (fun t _=>by
     show sgR (fun i=>R i*Y i t) i=sgR (fun i=>R i*Y i t) i+R i*Y i t
     rw [unhide hR0];grind)) (And.intro (qn.but hb2) (And.intro (q5.but hb2) (And.intro (qf.but hb2) (And.intro (q2.but hb2) (And.intro (q3.but hb2) (And.intro (q4.but hb2) (bw.trans' hb2))))))))
    clear hb2 qn q5 qf q2 q3 q4 bw SI HI r0 d0 d1 d2 d3
    go_wp2
    obtain ⟨a1,a2,a3⟩:=unhide JJ
    exact ⟨⟨i+1,by omega,by go_num,⟨a1,a2.new,a2.lt⟩,a3⟩,by simp [intOf];omega⟩
   ·have hsz:(Int.sign (R i).num==0)=false:=by
     rw [beq_eq_false_iff_ne]
     intro h
     exact hz (Int.sign_eq_zero_iff_zero.1 h)
    obtain ⟨sg,hsg⟩:∃ sg,sg=(R i).num.sign:=⟨_,rfl⟩
    rw [← hsg] at SI hsz
    clear hsg hz
    go_wp2_with fail
    refine (unhide SI).mono ?_
    rintro e w2 ⟨rfl,hb2⟩
    obtain ⟨qn,q5,qf,q2,q3,q4,bw⟩:=unhide HI
    have JJ:Hid (NewR g2 w2 gn n (fun t=>if t<0 then sgR (fun i=>R i*Y i t) (i+1) else sgR (fun i=>R i*Y i t) i)∧NewB g2 w2 g5 [.slice (some ⟨gn,0,none⟩) n n,.bool s5,.int .u64 x5,.int .u64 y5,.pointer p5]∧FracAt w2 (.agg #[.bool s5,.int .u64 x5,.int .u64 y5,.pointer p5]) (U*V)∧NewB g2 w2 g2 [.slice (some ⟨gR,0,none⟩) n n,.bool s1,.int .u64 x1,.int .u64 y1,.pointer p1]∧NewB g2 w2 g3 [.slice (some ⟨gY,0,none⟩) n n,.bool s2,.int .u64 x2,.int .u64 y2,.pointer p2]∧NewB g2 w2 g4 [.slice none 0 0,.bool false,.int .u64 0,.int .u64 0,.pointer none]∧But [] w w2):=⟨⟨(qn.but hb2).row.congr (fun t _=>by rw [if_neg (by omega)]),(qn.but hb2).new,(qn.but hb2).lt⟩,q5.but hb2,qf.but hb2,q2.but hb2,q3.but hb2,q4.but hb2,bw.trans' hb2⟩
    have r0':=(q2.but hb2).cells 0 _ rfl
    clear hb2 qn q5 qf q2 q3 q4 bw SI HI r0 d0 d1 d2 d3
    go_wp2
    clear r0'
    go_loopw [34] (fun kv wr=>∃ k:Nat,k≤n∧kv=.int .i64 (k:Int)∧Hid (NewR g2 wr gn n (fun t=>if t<k then sgR (fun i=>R i*Y i t) (i+1) else sgR (fun i=>R i*Y i t) i)∧NewB g2 wr g5 [.slice (some ⟨gn,0,none⟩) n n,.bool s5,.int .u64 x5,.int .u64 y5,.pointer p5]∧FracAt wr (.agg #[.bool s5,.int .u64 x5,.int .u64 y5,.pointer p5]) (U*V)∧NewB g2 wr g2 [.slice (some ⟨gR,0,none⟩) n n,.bool s1,.int .u64 x1,.int .u64 y1,.pointer p1]∧NewB g2 wr g3 [.slice (some ⟨gY,0,none⟩) n n,.bool s2,.int .u64 x2,.int .u64 y2,.pointer p2]∧NewB g2 wr g4 [.slice none 0 0,.bool false,.int .u64 0,.int .u64 0,.pointer none]∧But [] w wr)) (fun kv _=>n-(intOf kv).toNat)
    case atStart=>exact ⟨0,Nat.zero_le _,rfl,unhide JJ⟩
    case round =>
     obtain ⟨k,hk,rfl,HK⟩:=hrel
     rename World=>wk
     clear JJ
     by_cases hlk:k<n
     ·obtain ⟨qn,q5,qf,q2,q3,q4,bw⟩:=unhide HK
      obtain ⟨sa,xa,ya,pa,ca,fa⟩:=qn.row.told k hlk
      rw [if_neg (by omega)] at fa
      obtain ⟨sb,xb,yb,pb,cb,fb⟩:=((unhide HR).but bw) i hlt
      have hYw:=(unhide HY).but bw
      obtain ⟨gi,cg,rg⟩:=hYw.row i hlt
      obtain ⟨sc,xc,yc,pc,cc,fc⟩:=rg k hlk
      have lR:=isN_len (unhide NR i hlt)
      have lY:=isN_len (unhide NY i k hlt hlk)
      have lS:=isN_len (isN_mv h8 (unhide NR) (unhide NY) k hlk i (by omega))
      have lP:=isN_len (isN_prod (unhide NR i hlt) (unhide NY i k hlt hlk))
      have CM:=hide (fun W (hb:But [] wk W)=>in_prod (fracMul_any _ _ (R i) (Y i k) W (fb.but hb) (fc.but hb) (lR.mono (by omega)) (lY.mono (by omega))))
      have CA:=hide (fun W (y:FZ) (hb:But [] wk W) (hy:FracAt W (.agg #[.bool y.1,.int .u64 y.2.1,.int .u64 y.2.2.1,.pointer y.2.2.2]) (R i*Y i k))=>in_prod (fracAdd_any _ _ (sgR (fun i=>R i*Y i k) i) (R i*Y i k) W (fa.but hb) hy (lS.mono (by omega)) (lP.mono (by omega))))
      clear lR lY lS lP
      go_wp2
      refine behind_region9 9 _ _ wk g2 g3 g5 gn gR gY gi n i k (R i*Y i k) (sgR (fun i=>R i*Y i k) i+R i*Y i k) sa xa ya pa sb xb yb pb sc xc yc pc (by simp) (by simp [Act.eval]) (by simp [Act.eval]) (by simp [Act.eval]) (by simp [Act.eval]) (by simp [Act.eval]) hlt hlk hn (q5.cells 0 _ rfl) (q2.cells 0 _ rfl) (q3.cells 0 _ rfl) cg ca cb cc qn.row.loose (unhide CM) (unhide CA) ?_
      intro za zb w3 hP
      simp only [putted,List.foldl_cons,List.foldl_nil,Act.put,List.setIfInBounds_toArray,List.set_cons_zero,List.set_cons_succ]
      have hb3:=but_setCells w3 gn [.bool zb.1,.int .u64 zb.2.1,.int .u64 zb.2.2.1,.pointer zb.2.2.2] (k*4)
      have qn3:=(qn.but hP.mem).put hlk zb.1 zb.2.1 zb.2.2.1 zb.2.2.2 _ (hP.f22 rfl)
      obtain ⟨tb,htb⟩:=(qn.but hP.mem).row.bool (by omega)
      have LL:Hid (NewR g2 (w3.setCells gn (k*4) [.bool zb.1,.int .u64 zb.2.1,.int .u64 zb.2.2.1,.pointer zb.2.2.2]) gn n (fun t=>if t<k+1 then sgR (fun i=>R i*Y i t) (i+1) else sgR (fun i=>R i*Y i t) i)∧NewB g2 (w3.setCells gn (k*4) [.bool zb.1,.int .u64 zb.2.1,.int .u64 zb.2.2.1,.pointer zb.2.2.2]) g5 [.slice (some ⟨gn,0,none⟩) n n,.bool s5,.int .u64 x5,.int .u64 y5,.pointer p5]∧FracAt (w3.setCells gn (k*4) [.bool zb.1,.int .u64 zb.2.1,.int .u64 zb.2.2.1,.pointer zb.2.2.2]) (.agg #[.bool s5,.int .u64 x5,.int .u64 y5,.pointer p5]) (U*V)∧NewB g2 (w3.setCells gn (k*4) [.bool zb.1,.int .u64 zb.2.1,.int .u64 zb.2.2.1,.pointer zb.2.2.2]) g2 [.slice (some ⟨gR,0,none⟩) n n,.bool s1,.int .u64 x1,.int .u64 y1,.pointer p1]∧NewB g2 (w3.setCells gn (k*4) [.bool zb.1,.int .u64 zb.2.1,.int .u64 zb.2.2.1,.pointer zb.2.2.2]) g3 [.slice (some ⟨gY,0,none⟩) n n,.bool s2,.int .u64 x2,.int .u64 y2,.pointer p2]∧NewB g2 (w3.setCells gn (k*4) [.bool zb.1,.int .u64 zb.2.1,.int .u64 zb.2.2.1,.pointer zb.2.2.2]) g4 [.slice none 0 0,.bool false,.int .u64 0,.int .u64 0,.pointer none]∧But [] w (w3.setCells gn (k*4) [.bool zb.1,.int .u64 zb.2.1,.int .u64 zb.2.2.1,.pointer zb.2.2.2])):=by
       have n5:g5≠gn:=by
        rintro rfl
        have h1:=(q5.but hP.mem).cells 0 _ rfl
        rw [htb] at h1
        simp at h1
       refine ⟨⟨qn3.row.congr (fun t _=>?_),qn3.new,qn3.lt⟩,(q5.but hP.mem).beside hb3 (by simpa using n5),(qf.but hP.mem).over htb hb3,(q2.but hP.mem).beside hb3 (by simp;omega),(q3.but hP.mem).beside hb3 (by simp;omega),(q4.but hP.mem).beside hb3 (by simp;omega),(bw.trans' hP.mem).trans hb3 (fun x hx=>by simp at hx;subst hx;exact .inr (by have:=unhide Q2;omega))⟩
       unfold setF
       by_cases e:t=k
       ·subst e
        rw [if_pos rfl,if_pos (by omega)]
        rfl
       ·rw [if_neg e]
        dsimp only
        by_cases h2:t<k
        ·rw [if_pos h2,if_pos (by omega)]
        ·rw [if_neg h2,if_neg (by omega)]
      clear hP qn3 hb3 htb qn q5 qf q2 q3 q4 bw ca fa cb fb hYw cg rg cc fc CM CA HK
      generalize w3.setCells gn (k*4) [.bool zb.1,.int .u64 zb.2.1,.int .u64 zb.2.2.1,.pointer zb.2.2.2]=W4 at *
      go_wp2
      exact ⟨⟨k+1,by omega,by go_num,unhide LL⟩,by simp [intOf];omega⟩
     ·obtain rfl:k=n:=by omega
      obtain ⟨qn,qr⟩:=unhide HK
      have MM:=hide (And.intro (NewR.mk (qn.row.congr (G:=fun t=>sgR (fun i=>R i*Y i t) (i+1)) (fun t ht=>if_pos ht)) qn.new qn.lt) qr)
      clear qn qr HK
      go_wp2
      exact ⟨⟨i+1,by omega,by go_num,unhide MM⟩,by simp [intOf];omega⟩
  ·obtain rfl:i=n:=by omega
   obtain ⟨qn,q5,qf,q2,q3,q4,bw⟩:=unhide HI
   have a0:=q5.cells 0 _ rfl
   have a1:=q5.cells 1 _ rfl
   have a2:=q5.cells 2 _ rfl
   have a3:=q5.cells 3 _ rfl
   have a4:=q5.cells 4 _ rfl
   have c0:=q4.cells 0 _ rfl
   have c1:=q4.cells 1 _ rfl
   have c2:=q4.cells 2 _ rfl
   have c3:=q4.cells 3 _ rfl
   have c4:=q4.cells 4 _ rfl
   have rf:=q4.loose
   have K:=hide (And.intro qn (And.intro qf (And.intro q4 bw)))
   clear qn q5 qf q2 q3 q4 bw HI
   go_wp2
   obtain ⟨qn,qf,q4,bw⟩:=unhide K
   have hb:=but_setCells wr g4 [.slice (some ⟨gn,0,none⟩) i i,.bool s5,.int .u64 x5,.int .u64 y5,.pointer p5] 0
   have y4:=q4.put (us:=[.slice (some ⟨gn,0,none⟩) i i,.bool s5,.int .u64 x5,.int .u64 y5,.pointer p5]) rfl
   change bodyPost _ _ _ _ _ (wr.setCells g4 0 [.slice (some ⟨gn,0,none⟩) i i,.bool s5,.int .u64 x5,.int .u64 y5,.pointer p5])
   have hc1:∀ g ∈ [g4],∃ s,wr.cell? ⟨g,1,none⟩=some (.bool s):=fun g hg=>by simp at hg;subst hg;exact ⟨_,c1⟩
   have hF:But [] w (wr.setCells g4 0 [.slice (some ⟨gn,0,none⟩) i i,.bool s5,.int .u64 x5,.int .u64 y5,.pointer p5]):=bw.trans hb (fun x hx=>by simp at hx;subst hx;exact .inr (by have:=unhide Q2;omega))
   have rF:NewR w.heap.size (wr.setCells g4 0 [.slice (some ⟨gn,0,none⟩) i i,.bool s5,.int .u64 x5,.int .u64 y5,.pointer p5]) gn i (mvR R Y i):=⟨⟨qn.row.rowR.besideY hb hc1,fun o=>(hb.frozen (p:=⟨gn,o,none⟩) qn.lt (by simp;omega)).trans (qn.row.loose o)⟩,by have:=unhide Q2;omega,Nat.lt_of_lt_of_le qn.lt hb.size⟩
   have fF:=qf.besideY hb hc1
   have m0:=y4.cells 0 _ rfl
   have m1:=y4.cells 1 _ rfl
   have m2:=y4.cells 2 _ rfl
   have m3:=y4.cells 3 _ rfl
   have m4:=y4.cells 4 _ rfl
   generalize wr.setCells g4 0 [.slice (some ⟨gn,0,none⟩) i i,.bool s5,.int .u64 x5,.int .u64 y5,.pointer p5]=F at *
   exact bodyPost_ret (v:=.agg #[.slice (some ⟨gn,0,none⟩) i i,.bool s5,.int .u64 x5,.int .u64 y5,.pointer p5]) (by simp [results,Tryz.results31,go_sem,m0,m1,m2,m3,m4]) rfl ⟨_,rfl,⟨gn,s5,x5,y5,p5,rfl,rF,fF⟩,hF⟩
end Go.Proofs.YthlnhheblhapgaaGreatDoor
