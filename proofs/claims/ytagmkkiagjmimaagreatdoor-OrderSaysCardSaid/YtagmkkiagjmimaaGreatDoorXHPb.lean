/- A sum whose first number is a new one: i -/
import Derived.Test.YtagmkkiagjmimaaGreatDoorXRP
namespace Go.Proofs.YtagmkkiagjmimaaGreatDoor
open Go.Proofs.Tryz
open Go.RowKit
set_option maxHeartbeats 8000000
set_option maxRecDepth 100000
set_option linter.unusedVariables false
def yh (w:World) (b:Nat):Prop:=ze w b 0 0∧w.cell? ⟨b,2,none⟩=some (.bool false)∧w.cell? ⟨b,3,none⟩=some (.slice none 0 0)
theorem yh.but {w w':World} {b:Nat} (h:yh w b) (hb:But [] w w'):yh w' b:=⟨h.1.but hb,hb.ag h.2.1 (by simp),hb.ag h.2.2 (by simp)⟩
theorem yh.lt {w:World} {b:Nat} (h:yh w b):b<w.heap.size:=h.1.lt
theorem zoa (w:World) (t:TypeId):yh (w.alloc (.cells #[.bool false,.slice none 0 0,.bool false,.slice none 0 0] t)) w.heap.size:=by(
 refine⟨⟨by simp,.slice none 0 0,by simp,?_⟩,by simp,by simp⟩
 have h0:wd 4294967296 (0:Int).natAbs=[]:=by rw[wh (by omega)];rfl
 rw[h0]
 exact⟨none,0,rfl,Nat.le_refl _,fun i hi=>by simp at hi,fun b off e h1=>by simp at h1⟩)
theorem zdj (b:Nat) (w:World) (h:yh w b) :
   Calls prog 83 #[.pointer (some ⟨b,0,none⟩)] w fun e w'=>∃ q,e=.returned (.pointer (some ⟨q,0,none⟩))∧w.heap.size≤q∧But [] w w'∧ze w' q 0 1:=by(
 obtain⟨-,c2,c3⟩:=h
 go_enter func83,ntmps83
 go_wp2_with fail
 refine (ut 1 _ (by omega) (by omega)).mono ?_
 rintro e w1 ⟨rfl,hb,hI,-⟩
 go_wp2
 go_ret
 exact⟨_,rfl,Nat.le_refl _,hb,hI⟩)
theorem oz (A b1 o1 b2 o2:Nat) (x y z:Int) (hz:x*y=z) (w P:World) (hs:Slot P A 0) (hw:But [] w P) (hA:w.heap.size≤A) (hx:ze P b1 o1 x) (hy:ze P b2 o2 y) (n1:A≠b1) (n2:A≠b2) (hlx:(wd 4294967296 x.natAbs).length<8388608) (hly:(wd 4294967296 y.natAbs).length<8388608) (hlz:(wd 4294967296 z.natAbs).length<8388608) :
   Calls prog 85 #[.pointer (some ⟨A,0,none⟩),.pointer (some ⟨b1,o1,none⟩),.pointer (some ⟨b2,o2,none⟩)] P fun e W1=>e=.returned (.pointer (some ⟨A,0,none⟩))∧But [] w W1∧ze W1 A 0 z∧(∀ B,B≠A→Slot P B 0→Slot W1 B 0)∧(∀ b o z,b≠A→ze P b o z→ze W1 b o z)∧P.heap.size≤W1.heap.size:=by(
 refine (zls A 0 b1 o1 b2 o2 x y P hs n1 n2 hx hy (by omega) (by omega) (by rw[← Int.natAbs_mul,hz];omega)).mono ?_
 rintro e W1 ⟨rfl,w1,v,hb,hv,rfl⟩
 rw[hz] at hv ⊢
 have hs1:=hs.but hb (by simp)
 exact⟨rfl,(hw.trans' hb).trans (zcd ..) (by simp;exact hA),zcc hs1 _ _ hv,fun B hB hS=>yj _ _ (hS.but hb (by simp)) (.inl hB),fun b o z' hB hI=>dz hs1 _ _ (hI.but hb) (.inl hB),by rw[zfj];exact hb.size⟩)
theorem jr.stay {W:World} {P Q R:Int} {b0 b1 b8:Nat} {a0 a1 a8 p q r z:Bool} {w w':World} (h:jr W P Q R b0 b1 b8 a0 a1 a8 p q r z w) (hb:But [] w w'):jr W P Q R b0 b1 b8 a0 a1 a8 p q r z w' :=
 ⟨h.but.trans' hb,fun e=>⟨(h.s0 e).1,Nat.lt_of_lt_of_le (h.s0 e).2.1 hb.size,fun k=>((h.s0 e).2.2 k).but hb (by simp)⟩,fun e=>⟨(h.s1 e).1,Nat.lt_of_lt_of_le (h.s1 e).2.1 hb.size,fun k=>((h.s1 e).2.2 k).but hb (by simp)⟩,fun e=>⟨(h.s8 e).1,Nat.lt_of_lt_of_le (h.s8 e).2.1 hb.size,fun k=>((h.s8 e).2.2 k).but hb (by simp)⟩,
  h.n01,h.n08,h.n18,fun e=>⟨(h.hp e).1,(h.hp e).2.but hb⟩,fun e=>⟨(h.hq e).1,(h.hq e).2.but hb⟩,fun e=>⟨(h.hr e).1,(h.hr e).2.but hb⟩,h.hz⟩
def qgw (xb yb:Nat) (N:Nat × Nat × Nat × Nat) (i:Nat):Value:=match i with
 | 0=>.pointer (some ⟨N.1,0,none⟩)
 | 1=>.pointer (some ⟨N.2.1,0,none⟩)
 | 2=>.pointer (some ⟨xb,0,none⟩)
 | 3=>.pointer (some ⟨xb,0,none⟩)
 | 4=>.pointer (some ⟨xb,0,none⟩)
 | 5=>.pointer (some ⟨yb,0,none⟩)
 | 6=>.pointer (some ⟨yb,2,none⟩)
 | 7=>.pointer (some ⟨N.2.1,0,none⟩)
 | 8=>.pointer (some ⟨N.2.2.1,0,none⟩)
 | 9=>.pointer (some ⟨yb,0,none⟩)
 | 10=>.pointer (some ⟨yb,0,none⟩)
 | 11=>.pointer (some ⟨yb,0,none⟩)
 | 12=>.pointer (some ⟨xb,0,none⟩)
 | 13=>.pointer (some ⟨N.2.2.2,0,none⟩)
 | 14=>.pointer (some ⟨N.2.2.1,0,none⟩)
 | 15=>.pointer (some ⟨N.1,0,none⟩)
 | _=>.pointer (some ⟨N.1,0,none⟩)
theorem qez:zcx jl [(3,2),(4,3),(6,5),(7,1),(7,4),(7,6),(10,9),(11,10),(13,7),(13,12),(14,8),(14,11),(14,13),(15,0),(15,7),(15,14),(16,0),(16,1),(16,2),(16,3),(16,4),(16,5),(16,6),(16,7),(16,8),(16,9),(16,10),(16,11),(16,12),(16,13),(16,14),(16,15)]=true:=by kernel_rfl
theorem zvz (id:Nat) (Q:Exit→Act→World→Prop) (base:Act) (W0:World) (xb yb:Nat) (x y P Z R:Int) (nx ny:Nat) (hs:23<base.tmps.size) (e1:base.eval (.tmp 1)=.pointer (some ⟨xb,0,none⟩)) (e2:base.eval (.tmp 2)=.pointer (some ⟨yb,0,none⟩))
   (hx:yh W0 xb) (hx0:x=0) (hnx1:(nx:Int)=1) (hy:zu W0 yb y (ny:Int)) (hny:0<ny) (hxl:(wd 4294967296 x.natAbs).length<8388608) (hyl:(wd 4294967296 y.natAbs).length<8388608) (hnxl:(wd 4294967296 nx).length<8388608) (hnyl:(wd 4294967296 ny).length<8388608) (hP:x*(ny:Int)=P) (hZ:y*(nx:Int)=Z) (hR:R=P+Z) (hPl:(wd 4294967296 P.natAbs).length<8388608) (hZl:(wd 4294967296 Z.natAbs).length<8388608) (hRl:(wd 4294967296 R.natAbs).length<8388608)
   (hQ:∀ w b0 b1 b8 bd,But [] W0 w→W0.heap.size≤b0→ze w b0 0 R→Q .normal (bk base [(8,.pointer (some ⟨b0,0,none⟩)),(9,.pointer (some ⟨b1,0,none⟩)),(10,.pointer (some ⟨xb,0,none⟩)),(11,.pointer (some ⟨xb,0,none⟩)),(12,.pointer (some ⟨xb,0,none⟩)),(13,.pointer (some ⟨yb,0,none⟩)),(14,.pointer (some ⟨yb,2,none⟩)),(15,.pointer (some ⟨b1,0,none⟩)),(16,.pointer (some ⟨b8,0,none⟩)),(17,.pointer (some ⟨yb,0,none⟩)),(18,.pointer (some ⟨yb,0,none⟩)),(19,.pointer (some ⟨yb,0,none⟩)),(20,.pointer (some ⟨xb,0,none⟩)),(21,.pointer (some ⟨bd,0,none⟩)),(22,.pointer (some ⟨b8,0,none⟩)),(23,.pointer (some ⟨b0,0,none⟩)),(7,.pointer (some ⟨b0,0,none⟩))]) w) :
   (Code.region id jl true).wp prog Q base W0:=by(
 have hdr:∀ {w},But [] W0.drew w→But [] W0 w:=fun h=>(But.refl _ _).drew.trans' h
 have hT:∀ i,i<17→zeg i<base.tmps.size:=fun i hi=>by
  have h:zeg i≤23:=by revert i;decide
  omega
 have lx:=hx.lt
 have ly:=hy.lt
 refine zax (by kernel_rfl) (zcu (by kernel_rfl)) (zhw (by kernel_rfl)) (α:=Nat × Nat × Nat × Nat) (fun N d w=>jr W0.drew P Z R N.1 N.2.1 N.2.2.1 (d 0) (d 1) (d 8) (d 7) (d 14) (d 15) (d 16) w∧(d 13=true→d 14=false→ze w N.2.2.2 0 (nx:Int)∧(d 8=true→N.2.2.2≠N.2.2.1))) (qgw xb yb) zeg 17 (by kernel_rfl) zoe hT (0,0,0,0) ?_ ?_ ?_
 ·exact⟨⟨But.refl _ _,by simp,by simp,by simp,by simp,by simp,by simp,by simp,by simp,by simp,by simp⟩,fun h=>by simp at h⟩
 ·(
 rintro ⟨b0,b1,b8,bd⟩ d i o a w K hi ho hdi hCl hH he hdep hk
 have hH':jr W0.drew P Z R b0 b1 b8 (d 0) (d 1) (d 8) (d 7) (d 14) (d 15) (d 16) w:=hH.1
 have hX:d 13=true→d 14=false→ze w bd 0 (nx:Int)∧(d 8=true→bd≠b8):=hH.2
 have hD:=zlv (ps:=[(3,2),(4,3),(6,5),(7,1),(7,4),(7,6),(10,9),(11,10),(13,7),(13,12),(14,8),(14,11),(14,13),(15,0),(15,7),(15,14),(16,0),(16,1),(16,2),(16,3),(16,4),(16,5),(16,6),(16,7),(16,8),(16,9),(16,10),(16,11),(16,12),(16,13),(16,14),(16,15)]) (by kernel_rfl) ho (fun j=>d j=true∧a.eval (.tmp (zeg j))=qgw xb yb (b0,b1,b8,bd) j) hdep
 have e1':=(he 1 (fun j hj e=>absurd e.symm (by revert j;decide))).trans e1
 have e2':=(he 2 (fun j hj e=>absurd e.symm (by revert j;decide))).trans e2
 have hB:=hdr hH'.but
 have hlw:=hB.size
 have:i=0∨i=1∨i=2∨i=3∨i=4∨i=5∨i=6∨i=7∨i=8∨i=9∨i=10∨i=11∨i=12∨i=13∨i=14∨i=15∨i=16:=by omega
 rcases this with rfl|rfl|rfl|rfl|rfl|rfl|rfl|rfl|rfl|rfl|rfl|rfl|rfl|rfl|rfl|rfl|rfl
 ·(
 obtain rfl:=so (show jl[0]? =some qdj from rfl) ho
 rw[hdi] at hH'
 refine zh (jy a w _ _ _ _) (hk (w.heap.size,b1,b8,bd) _ _ rfl (fun j hj hdj=>?_) ⟨hH'.zqc _,fun h1 h2=>⟨(hX h1 h2).1.but ((But.refl _ _).alloc _),(hX h1 h2).2⟩⟩)
 have:j=0∨j=1∨j=2∨j=3∨j=4∨j=5∨j=6∨j=7∨j=8∨j=9∨j=10∨j=11∨j=12∨j=13∨j=14∨j=15∨j=16:=by omega
 rcases this with rfl|rfl|rfl|rfl|rfl|rfl|rfl|rfl|rfl|rfl|rfl|rfl|rfl|rfl|rfl|rfl|rfl
 all_goals first
  | rfl
  | (rw[hdi] at hdj;simp at hdj)
  | (exfalso;first | (have:=(hH'.hr hdj).1;simp at this) | (have:=(hH'.hr (hH'.hz hdj)).1;simp at this)))
 ·(
 obtain rfl:=so (show jl[1]? =some qdi from rfl) ho
 rw[hdi] at hH'
 refine zh (jy a w _ _ _ _) (hk (b0,w.heap.size,b8,bd) _ _ rfl (fun j hj hdj=>?_) ⟨hH'.zqb _,fun h1 h2=>⟨(hX h1 h2).1.but ((But.refl _ _).alloc _),(hX h1 h2).2⟩⟩)
 have:j=0∨j=1∨j=2∨j=3∨j=4∨j=5∨j=6∨j=7∨j=8∨j=9∨j=10∨j=11∨j=12∨j=13∨j=14∨j=15∨j=16:=by omega
 rcases this with rfl|rfl|rfl|rfl|rfl|rfl|rfl|rfl|rfl|rfl|rfl|rfl|rfl|rfl|rfl|rfl|rfl
 all_goals first
  | rfl
  | (rw[hdi] at hdj;simp at hdj)
  | (exfalso;have:=(hH'.hp hdj).1;simp at this))
 ·obtain rfl:=so (show jl[2]? =some qdh from rfl) ho
  exact zh (jh a w _ _ _ _ _ _ e1') (hk (b0,b1,b8,bd) _ _ rfl (fun _ _ _=>rfl) hH)
 ·obtain rfl:=so (show jl[3]? =some qdg from rfl) ho
  exact zh (zaf a w _ _ _ _ _ _ 0 (hD 2 (by simp)).2) (hk (b0,b1,b8,bd) _ _ rfl (fun _ _ _=>rfl) hH)
 ·obtain rfl:=so (show jl[4]? =some qdf from rfl) ho
  exact zh (ic a w _ _ _ _ _ _ (hD 3 (by simp)).2 (by omega)) (hk (b0,b1,b8,bd) _ _ rfl (fun _ _ _=>rfl) hH)
 ·obtain rfl:=so (show jl[5]? =some qde from rfl) ho
  exact zh (jh a w _ _ _ _ _ _ e2') (hk (b0,b1,b8,bd) _ _ rfl (fun _ _ _=>rfl) hH)
 ·obtain rfl:=so (show jl[6]? =some qdd from rfl) ho
  refine qz (yu a w _ _ _ _ _ _ (hD 5 (by simp)).2) (R:=fun w' v=>v=.pointer (some ⟨yb,2,none⟩)∧w'=w) ((j4 yb y ny w (hy.but hB) hny).mono (fun e w' h=>⟨_,h.1,rfl,h.2⟩)) ?_
  rintro v w' ⟨rfl,rfl⟩
  exact hk (b0,b1,b8,bd) _ _ rfl (fun _ _ _=>rfl) hH
 ·(
 obtain rfl:=so (show jl[7]? =some qdc from rfl) ho
 have hs1:=hH'.s1 (hD 1 (by simp)).1
 rw[hdi] at hs1
 refine qz (ku a w _ _ _ _ _ _ _ _ _ _ (hD 1 (by simp)).2 (hD 4 (by simp)).2 (hD 6 (by simp)).2) (R:=fun w' v=>v=.pointer (some ⟨b1,0,none⟩)∧But [] W0.drew w'∧ze w' b1 0 P∧(∀ B,B≠b1→Slot w B 0→Slot w' B 0)∧(∀ b o z',b≠b1→ze w b o z'→ze w' b o z')∧w.heap.size≤w'.heap.size) ((ji b1 xb 0 yb 2 x (ny:Int) P hP W0.drew w (hs1.2.2 rfl) hH'.but hs1.1 (by rw[hx0];exact hx.1) hy.drew.low hxl (by rw[Int.natAbs_natCast];exact hnyl) hPl).mono (fun e w' h=>⟨_,h.1,rfl,h.2⟩)) ?_
 rintro v w' ⟨rfl,k1,k2,k3,k4,k5⟩
 rw[hdi,(hD 1 (by simp)).1] at hH'
 refine hk (b0,b1,b8,bd) _ _ rfl (fun _ _ _=>rfl) ⟨?_,fun h1=>absurd ((hCl.not qez (i:=13) (j:=7) (by simp) hdi).symm.trans h1) (by simp)⟩
 show jr W0.drew P Z R b0 b1 b8 (d 0) (d 1) (d 8) true (d 14) (d 15) (d 16) w'
 rw[(hD 1 (by simp)).1]
 exact hH'.qeo k1 k2 k3 k4 k5)
 ·(
 obtain rfl:=so (show jl[8]? =some qdb from rfl) ho
 rw[hdi] at hH'
 refine zh (jy a w _ _ _ _) (hk (b0,b1,w.heap.size,bd) _ _ rfl (fun j hj hdj=>?_) ⟨hH'.zqa _,fun h1 h2=>⟨(hX h1 h2).1.but ((But.refl _ _).alloc _),fun _=>Nat.ne_of_lt (hX h1 h2).1.lt⟩⟩)
 have:j=0∨j=1∨j=2∨j=3∨j=4∨j=5∨j=6∨j=7∨j=8∨j=9∨j=10∨j=11∨j=12∨j=13∨j=14∨j=15∨j=16:=by omega
 rcases this with rfl|rfl|rfl|rfl|rfl|rfl|rfl|rfl|rfl|rfl|rfl|rfl|rfl|rfl|rfl|rfl|rfl
 all_goals first
  | rfl
  | (rw[hdi] at hdj;simp at hdj)
  | (exfalso;have:=(hH'.hq hdj).1;simp at this))
 ·obtain rfl:=so (show jl[9]? =some qda from rfl) ho
  exact zh (jh a w _ _ _ _ _ _ e2') (hk (b0,b1,b8,bd) _ _ rfl (fun _ _ _=>rfl) hH)
 ·obtain rfl:=so (show jl[10]? =some zvy from rfl) ho
  exact zh (zaf a w _ _ _ _ _ _ 0 (hD 9 (by simp)).2) (hk (b0,b1,b8,bd) _ _ rfl (fun _ _ _=>rfl) hH)
 ·obtain rfl:=so (show jl[11]? =some zvx from rfl) ho
  exact zh (ic a w _ _ _ _ _ _ (hD 10 (by simp)).2 (by omega)) (hk (b0,b1,b8,bd) _ _ rfl (fun _ _ _=>rfl) hH)
 ·obtain rfl:=so (show jl[12]? =some zvw from rfl) ho
  exact zh (jh a w _ _ _ _ _ _ e1') (hk (b0,b1,b8,bd) _ _ rfl (fun _ _ _=>rfl) hH)
 ·(
 obtain rfl:=so (show jl[13]? =some zvv from rfl) ho
 refine qz (yu a w _ _ _ _ _ _ (hD 12 (by simp)).2) (R:=fun w' v=>∃ q,v=.pointer (some ⟨q,0,none⟩)∧w.heap.size≤q∧But [] w w'∧ze w' q 0 1) ((zdj xb w (hx.but hB)).mono (fun e w' ⟨q,h1,h2,h3,h4⟩=>⟨_,h1,q,rfl,h2,h3,h4⟩)) ?_
 rintro v w' ⟨q,rfl,hq,hb,hI⟩
 refine hk (b0,b1,b8,q) _ _ rfl (fun j hj hdj=>?_) ⟨hH'.stay hb,fun _ _=>⟨by rw[hnx1];exact hI,fun h8=>Ne.symm (Nat.ne_of_lt (Nat.lt_of_lt_of_le (hH'.s8 h8).2.1 hq))⟩⟩
 have:j=0∨j=1∨j=2∨j=3∨j=4∨j=5∨j=6∨j=7∨j=8∨j=9∨j=10∨j=11∨j=12∨j=13∨j=14∨j=15∨j=16:=by omega
 rcases this with rfl|rfl|rfl|rfl|rfl|rfl|rfl|rfl|rfl|rfl|rfl|rfl|rfl|rfl|rfl|rfl|rfl
 all_goals first
  | rfl
  | (rw[hdi] at hdj;simp at hdj))
 ·(
 obtain rfl:=so (show jl[14]? =some zvu from rfl) ho
 have hs1:=hH'.s8 (hD 8 (by simp)).1
 rw[hdi] at hs1
 refine qz (ku a w _ _ _ _ _ _ _ _ _ _ (hD 8 (by simp)).2 (hD 11 (by simp)).2 (hD 13 (by simp)).2) (R:=fun w' v=>v=.pointer (some ⟨b8,0,none⟩)∧But [] W0.drew w'∧ze w' b8 0 Z∧(∀ B,B≠b8→Slot w B 0→Slot w' B 0)∧(∀ b o z',b≠b8→ze w b o z'→ze w' b o z')∧w.heap.size≤w'.heap.size) ((oz b8 yb 0 bd 0 y (nx:Int) Z hZ W0.drew w (hs1.2.2 rfl) hH'.but hs1.1 ((ze.drew hy.up).but hH'.but) (hX (hD 13 (by simp)).1 hdi).1 (Ne.symm (Nat.ne_of_lt (Nat.lt_of_lt_of_le ly hs1.1))) (Ne.symm ((hX (hD 13 (by simp)).1 hdi).2 (hD 8 (by simp)).1)) hyl (by rw[Int.natAbs_natCast];exact hnxl) hZl).mono (fun e w' h=>⟨_,h.1,rfl,h.2⟩)) ?_
 rintro v w' ⟨rfl,k1,k2,k3,k4,k5⟩
 rw[hdi,(hD 8 (by simp)).1] at hH'
 refine hk (b0,b1,b8,bd) _ _ rfl (fun _ _ _=>rfl) ⟨?_,fun _ h2=>absurd h2 (by rw[ek];simp)⟩
 show jr W0.drew P Z R b0 b1 b8 (d 0) (d 1) (d 8) (d 7) true (d 15) (d 16) w'
 rw[(hD 8 (by simp)).1]
 exact hH'.qen k1 k2 k3 k4 k5)
 ·(
 obtain rfl:=so (show jl[15]? =some zvt from rfl) ho
 have d0:=(hD 0 (by simp)).1
 have hs1:=hH'.s0 d0
 rw[hdi] at hs1
 have hp7:=hH'.hp (hD 7 (by simp)).1
 have hq14:=hH'.hq (hD 14 (by simp)).1
 refine qz (zgw a w _ _ _ _ _ _ _ _ _ _ (hD 0 (by simp)).2 (hD 7 (by simp)).2 (hD 14 (by simp)).2) (R:=fun w' v=>v=.pointer (some ⟨b0,0,none⟩)∧But [] W0.drew w'∧ze w' b0 0 R∧(∀ B,B≠b0→Slot w B 0→Slot w' B 0)∧(∀ b o z',b≠b0→ze w b o z'→ze w' b o z')∧w.heap.size≤w'.heap.size) ((zjo b0 0 b1 0 b8 0 P Z R w (hs1.2.2 rfl) (hH'.n01 d0 hp7.1) (hH'.n08 d0 hq14.1) hp7.2 hq14.2 hPl hZl (by omega) hR).mono (fun e w' h=>by
  obtain⟨h1,w1,v,h2,h3,rfl⟩:=h
  exact⟨_,h1,rfl,zdw (hs1.2.2 rfl) hH'.but hs1.1 h2 h3⟩)) ?_
 rintro v w' ⟨rfl,k1,k2,k3,k4,k5⟩
 rw[hdi,d0] at hH'
 refine hk (b0,b1,b8,bd) _ _ rfl (fun _ _ _=>rfl) ⟨?_,fun _ h2=>absurd ((hD 14 (by simp)).1.symm.trans h2) (by simp)⟩
 show jr W0.drew P Z R b0 b1 b8 (d 0) (d 1) (d 8) (d 7) (d 14) true (d 16) w'
 rw[d0]
 exact hH'.zcs k1 k2 k3 k4 k5)
 ·(
 obtain rfl:=so (show jl[16]? =some zvs from rfl) ho
 have d15:=(hD 15 (by simp)).1
 rw[d15] at hH'
 refine zh (zgx a w _ _ _ _ _ _ (hD 15 (by simp)).2) (hk (b0,b1,b8,bd) _ _ rfl (fun _ _ _=>rfl) ⟨?_,fun _ h2=>absurd ((hD 14 (by simp)).1.symm.trans h2) (by simp)⟩)
 show jr W0.drew P Z R b0 b1 b8 (d 0) (d 1) (d 8) (d 7) (d 14) (d 15) true w
 rw[d15]
 exact hH'.done))
 ·rintro ⟨b0,b1,b8,bd⟩ d w hd hH
  have hH':jr W0.drew P Z R b0 b1 b8 (d 0) (d 1) (d 8) (d 7) (d 14) (d 15) (d 16) w:=hH.1
  exact hQ w b0 b1 b8 bd (hdr hH'.but) (hH'.s0 (hd 0 (by omega))).1 (hH'.hr (hd 15 (by omega))).2)
theorem zrn (zb xb yb:Nat) (x y:Int) (nx ny:Nat) (w:World) (hz0:Slot w zb 0) (hz2:Slot w zb 2) (hx:yh w xb) (hx0:x=0) (hnx1:(nx:Int)=1) (hy:zu w yb y (ny:Int)) (hny:0<ny) (hxl:(wd 4294967296 x.natAbs).length<8388608) (hyl:(wd 4294967296 y.natAbs).length<8388608) (hnxl:(wd 4294967296 nx).length<8388608) (hnyl:(wd 4294967296 ny).length<8388608) (P Z R D:Int) (hP:x*(ny:Int)=P) (hZ:y*(nx:Int)=Z) (hR:R=P+Z) (hD:(nx:Int)*(ny:Int)=D) (hPl:(wd 4294967296 P.natAbs).length<8388608) (hZl:(wd 4294967296 Z.natAbs).length<8388608) (hRl:(wd 4294967296 R.natAbs).length<8388608) (hDl:(wd 4294967296 D.natAbs).length<8388608) (hD0:D≠0) (A B:Int) (eA:Hid (A=zdb (if D<0 then -R else R) D.natAbs)) (eB:Hid (B=zdc R D.natAbs)) :
   Calls prog 162 #[.pointer (some ⟨zb,0,none⟩),.pointer (some ⟨xb,0,none⟩),.pointer (some ⟨yb,0,none⟩)] w fun e w'=>e=.returned (.pointer (some ⟨zb,0,none⟩))∧But [zb] w w'∧zu w' zb A B:=by(
 have HX:=af hx
 have HY:=af hy
 have HZ0:=af hz0
 have HZ2:=af hz2
 have REG:=af (fun (Q:Exit→Act→World→Prop) (base:Act) (hs:23<base.tmps.size) (e1:base.eval (.tmp 1)=.pointer (some ⟨xb,0,none⟩)) (e2:base.eval (.tmp 2)=.pointer (some ⟨yb,0,none⟩))=>zvz 1 Q base w xb yb x y P Z R nx ny hs e1 e2 hx hx0 hnx1 hy hny hxl hyl hnxl hnyl hP hZ hR hPl hZl hRl)
 have DX:=af (fun W (h:yh W xb)=>zdj xb W h)
 have DY:=af (fun W (h:zu W yb y (ny:Int))=>j4 yb y ny W h hny)
 have MU:=af (fun (A q:Nat) (w P:World) (hs:Slot P A 0) (hw:But [] w P) (hA:w.heap.size≤A) (hx:ze P q 0 1) (hy:zu P yb y (ny:Int)) (n1:A≠q) (n2:A≠yb)=>oz A q 0 yb 2 (nx:Int) (ny:Int) D hD w P hs hw hA (by rw[hnx1];exact hx) hy.low n1 n2 (by rw[Int.natAbs_natCast];exact hnxl) (by rw[Int.natAbs_natCast];exact hnyl) hDl)
 have SF:=af (fun (b0 b1:Nat) (W:World) (h0:Slot W zb 0) (h2:Slot W zb 2) (ha:ze W b0 0 R) (hb:ze W b1 0 D)=>bf zb b0 0 b1 0 R D W h0 h2 ha hb hRl hDl hD0 A B eA eB)
 clear hx hy hz0 hz2 hny hx0 hnx1 hxl hyl hnxl hnyl hP hZ hR hD hPl hZl hRl hDl hD0 eA eB
 go_enter func162,ntmps162
 go_wp2_with fail
 refine ae REG _ _ (by simp) (by simp[Act.eval]) (by simp[Act.eval]) ?_
 intro w1 b0 b1 b8 bd hb1 hb0 hI
 simp only[bk,List.foldl_cons,List.foldl_nil,Act.put,List.setIfInBounds_toArray,List.set_cons_zero,List.set_cons_succ]
 obtain⟨W0,hW0⟩:∃ W0,W0=w1.alloc (.cells #[.bool false,.slice none 0 0] 111):=⟨_,rfl⟩
 have hs:=jb w1 111
 rw[← hW0] at hs
 have hbw:But [] w1 W0:=by rw[hW0];exact (But.refl _ _).alloc _
 have hb2:=hb1.trans' hbw
 have K0:=af (And.intro hs (And.intro hbw (And.intro hb1 (And.intro hb0 hI))))
 have KX:=af ((ae HX).but hb2)
 have KY:=af ((ae HY).but hb2)
 have HW0:=af hW0
 clear hW0 hs hbw hb1 hb0 hb2 hI
 obtain⟨g,hg⟩:∃ g,g=w1.heap.size:=⟨_,rfl⟩
 go_wp2_with fail
 rw[← ae HW0,← hg]
 rw[← hg] at K0
 have HG:=af hg
 clear hg
 refine (ae DX _ (ae KX)).mono ?_
 rintro e w2 ⟨q,rfl,hq,hbq,hIq⟩
 have hlg:g<W0.heap.size:=(ae K0).1.lt
 have KY2:=af ((ae KY).but hbq)
 have KQ:=af (And.intro hIq (And.intro ((ae K0).1.but hbq (by simp)) (And.intro ((ae K0).2.1.trans' hbq) (Nat.ne_of_lt (Nat.lt_of_lt_of_le hlg hq)))))
 clear hq hbq hIq hlg
 go_wp2_with fail
 refine (ae DY _ (ae KY2)).mono ?_
 rintro e w3 ⟨rfl,hw⟩
 obtain rfl:=hw.symm
 clear hw
 go_wp2_with fail
 refine (ae MU g q w1 w2 (ae KQ).2.1 (ae KQ).2.2.1 (Nat.le_of_eq (ae HG).symm) (ae KQ).1 (ae KY2) (ae KQ).2.2.2 (by
  have h1:=(ae HY).lt
  have h2:=(ae K0).2.2.1.size
  have h3:=ae HG
  omega)).mono ?_
 rintro e w4 ⟨rfl,k1,k2,k3,k4,k5⟩
 have FIN:Hid (Slot w4 zb 0∧Slot w4 zb 2∧ze w4 b0 0 R∧ze w4 g 0 D∧But [] w w4):=by
  obtain⟨hs,hbw,hb1,hb0,hI⟩:=ae K0
  have hb3:=hb1.trans' k1
  exact⟨(ae HZ0).but hb3 (by simp),(ae HZ2).but hb3 (by simp),hI.but k1,k2,hb3⟩
 clear k1 k2 k3 k4 k5 K0 KX KY KY2 KQ HW0 HG MU DX DY REG HX HY HZ0 HZ2
 go_wp2_with fail
 refine (ae SF b0 g _ (ae FIN).1 (ae FIN).2.1 (ae FIN).2.2.1 (ae FIN).2.2.2.1).mono ?_
 rintro e w3 ⟨rfl,k1,k2⟩
 have F3:=af (And.intro ((ae FIN).2.2.2.2.of_nil.trans k1 (fun x hx=>.inl hx)) k2)
 clear k1 k2 FIN SF
 go_wp2
 go_ret
 exact⟨rfl,(ae F3).1,(ae F3).2⟩)
theorem zoz (xb yb:Nat) (f g:Rat) (w:World) (hf0:f=0) (hx:yh w xb) (hy:zi w yb g) (lf:qd f 2000000) (lg:qd g 2000000) :
   Calls prog 82 #[.pointer (some ⟨xb,0,none⟩),.pointer (some ⟨yb,0,none⟩)] w fun e w'=>∃ zb,e=.returned (.pointer (some ⟨zb,0,none⟩))∧But [] w w'∧zi w' zb (f+g)∧w.heap.size≤zb:=by(
 have hfd:0<f.den:=Nat.pos_of_ne_zero f.den_nz
 have hgd:0<g.den:=Nat.pos_of_ne_zero g.den_nz
 have hQ0:(f.den:Int)*(g.den:Int)≠0:=Int.mul_ne_zero (by omega) (by omega)
 obtain⟨e1,e2⟩:=zdq (f.num*(g.den:Int)+g.num*(f.den:Int)) ((f.den:Int)*(g.den:Int)) hQ0 (f+g) (zgl f g)
 obtain⟨W0,hW0⟩:∃ W0,W0=w.alloc (.cells #[.bool false,.slice none 0 0,.bool false,.slice none 0 0] 113):=⟨_,rfl⟩
 have hs:=zbm w 113
 have hbw:But [] w W0:=by rw[hW0];exact (But.refl _ _).alloc _
 rw[← hW0] at hs
 obtain⟨lf1,lf2⟩:=lf
 obtain⟨lg1,lg2⟩:=lg
 have d1:(wd 4294967296 ((f.den:Nat):Int).natAbs).length≤2000000:=by rw[Int.natAbs_natCast];exact lf2
 have d2:(wd 4294967296 ((g.den:Nat):Int).natAbs).length≤2000000:=by rw[Int.natAbs_natCast];exact lg2
 have p1:=qp f.num (g.den:Int) _ _ lf1 d2
 have p2:=qp g.num (f.den:Int) _ _ lg1 d1
 have p3:=qp (f.den:Int) (g.den:Int) _ _ d1 d2
 have p4:=zba _ _ _ p1 p2
 have MU:=af (zrn w.heap.size xb yb f.num g.num f.den g.den W0 hs.1 hs.2 (hx.but hbw) (by rw[hf0];rfl) (by rw[hf0];rfl) (zu.but hy hbw) hgd (by omega) (by omega) (by omega) (by omega) _ _ _ _ rfl rfl rfl rfl (by omega) (by omega) (by omega) (by omega) hQ0 (f+g).num ((f+g).den:Int) e1 e2)
 have HW0:=af hW0
 have HBW:=af hbw
 clear hW0 hbw hs e1 e2 hQ0 p1 p2 p3 p4 d1 d2 lf1 lf2 lg1 lg2 hx hy hfd hgd
 go_enter func82,ntmps82
 go_wp2_with fail
 rw[← ae HW0]
 refine (ae MU).mono ?_
 rintro e w1 ⟨rfl,h1,h2⟩
 have FIN:=af (And.intro ((ae HBW).trans h1 (by simp)) h2)
 clear h1 h2 MU
 go_wp2
 go_ret
 exact⟨w.heap.size,rfl,(ae FIN).1,(ae FIN).2,Nat.le_refl _⟩)
def qfd (xb yb:Nat) (N:Nat × Nat × Nat × Nat) (i:Nat):Value:=match i with
 | 0=>.pointer (some ⟨N.1,0,none⟩)
 | 1=>.pointer (some ⟨N.2.1,0,none⟩)
 | 2=>.pointer (some ⟨xb,0,none⟩)
 | 3=>.pointer (some ⟨xb,0,none⟩)
 | 4=>.pointer (some ⟨xb,0,none⟩)
 | 5=>.pointer (some ⟨yb,0,none⟩)
 | 6=>.pointer (some ⟨N.2.2.2,0,none⟩)
 | 7=>.pointer (some ⟨N.2.1,0,none⟩)
 | 8=>.pointer (some ⟨N.2.2.1,0,none⟩)
 | 9=>.pointer (some ⟨yb,0,none⟩)
 | 10=>.pointer (some ⟨yb,0,none⟩)
 | 11=>.pointer (some ⟨yb,0,none⟩)
 | 12=>.pointer (some ⟨xb,0,none⟩)
 | 13=>.pointer (some ⟨xb,2,none⟩)
 | 14=>.pointer (some ⟨N.2.2.1,0,none⟩)
 | 15=>.pointer (some ⟨N.1,0,none⟩)
 | _=>.pointer (some ⟨N.1,0,none⟩)
theorem zwm:zcx jk [(3,2),(4,3),(6,5),(7,1),(7,4),(7,6),(10,9),(11,10),(13,7),(13,12),(14,8),(14,11),(14,13),(15,0),(15,7),(15,14),(16,0),(16,1),(16,2),(16,3),(16,4),(16,5),(16,6),(16,7),(16,8),(16,9),(16,10),(16,11),(16,12),(16,13),(16,14),(16,15)]=true:=by kernel_rfl
theorem zua (id:Nat) (Q:Exit→Act→World→Prop) (base:Act) (W0:World) (xb yb:Nat) (x y P Z R:Int) (nx ny:Nat) (hs:23<base.tmps.size) (e1:base.eval (.tmp 1)=.pointer (some ⟨xb,0,none⟩)) (e2:base.eval (.tmp 2)=.pointer (some ⟨yb,0,none⟩))
   (hx:zu W0 xb x (nx:Int)) (hy:yh W0 yb) (hy0:y=0) (hny1:(ny:Int)=1) (hnx:0<nx) (hxl:(wd 4294967296 x.natAbs).length<8388608) (hyl:(wd 4294967296 y.natAbs).length<8388608) (hnxl:(wd 4294967296 nx).length<8388608) (hnyl:(wd 4294967296 ny).length<8388608) (hP:x*(ny:Int)=P) (hZ:y*(nx:Int)=Z) (hR:R=P-Z) (hPl:(wd 4294967296 P.natAbs).length<8388608) (hZl:(wd 4294967296 Z.natAbs).length<8388608) (hRl:(wd 4294967296 R.natAbs).length<8388608)
   (hQ:∀ w b0 b1 b8 bd,But [] W0 w→W0.heap.size≤b0→ze w b0 0 R→Q .normal (bk base [(8,.pointer (some ⟨b0,0,none⟩)),(9,.pointer (some ⟨b1,0,none⟩)),(10,.pointer (some ⟨xb,0,none⟩)),(11,.pointer (some ⟨xb,0,none⟩)),(12,.pointer (some ⟨xb,0,none⟩)),(13,.pointer (some ⟨yb,0,none⟩)),(14,.pointer (some ⟨bd,0,none⟩)),(15,.pointer (some ⟨b1,0,none⟩)),(16,.pointer (some ⟨b8,0,none⟩)),(17,.pointer (some ⟨yb,0,none⟩)),(18,.pointer (some ⟨yb,0,none⟩)),(19,.pointer (some ⟨yb,0,none⟩)),(20,.pointer (some ⟨xb,0,none⟩)),(21,.pointer (some ⟨xb,2,none⟩)),(22,.pointer (some ⟨b8,0,none⟩)),(23,.pointer (some ⟨b0,0,none⟩)),(7,.pointer (some ⟨b0,0,none⟩))]) w) :
   (Code.region id jk true).wp prog Q base W0:=by(
 have hdr:∀ {w},But [] W0.drew w→But [] W0 w:=fun h=>(But.refl _ _).drew.trans' h
 have hT:∀ i,i<17→zed i<base.tmps.size:=fun i hi=>by
  have h:zed i≤23:=by revert i;decide
  omega
 have lx:=hx.lt
 have ly:=hy.lt
 refine zax (by kernel_rfl) (zcu (by kernel_rfl)) (zhw (by kernel_rfl)) (α:=Nat × Nat × Nat × Nat) (fun N d w=>jr W0.drew P Z R N.1 N.2.1 N.2.2.1 (d 0) (d 1) (d 8) (d 7) (d 14) (d 15) (d 16) w∧(d 6=true→d 7=false→ze w N.2.2.2 0 (ny:Int)∧(d 1=true→N.2.2.2≠N.2.1))) (qfd xb yb) zed 17 (by kernel_rfl) znh hT (0,0,0,0) ?_ ?_ ?_
 ·exact⟨⟨But.refl _ _,by simp,by simp,by simp,by simp,by simp,by simp,by simp,by simp,by simp,by simp⟩,fun h=>by simp at h⟩
 ·(
 rintro ⟨b0,b1,b8,bd⟩ d i o a w K hi ho hdi hCl hH he hdep hk
 have hH':jr W0.drew P Z R b0 b1 b8 (d 0) (d 1) (d 8) (d 7) (d 14) (d 15) (d 16) w:=hH.1
 have hX:d 6=true→d 7=false→ze w bd 0 (ny:Int)∧(d 1=true→bd≠b1):=hH.2
 have hD:=zlv zwm ho (fun j=>d j=true∧a.eval (.tmp (zed j))=qfd xb yb (b0,b1,b8,bd) j) hdep
 have e1':=(he 1 (fun j hj e=>absurd e.symm (by revert j;decide))).trans e1
 have e2':=(he 2 (fun j hj e=>absurd e.symm (by revert j;decide))).trans e2
 have hB:=hdr hH'.but
 have hlw:=hB.size
 have:i=0∨i=1∨i=2∨i=3∨i=4∨i=5∨i=6∨i=7∨i=8∨i=9∨i=10∨i=11∨i=12∨i=13∨i=14∨i=15∨i=16:=by omega
 rcases this with rfl|rfl|rfl|rfl|rfl|rfl|rfl|rfl|rfl|rfl|rfl|rfl|rfl|rfl|rfl|rfl|rfl
 ·(
 obtain rfl:=so (show jk[0]? =some qai from rfl) ho
 rw[hdi] at hH'
 refine zh (jy a w _ _ _ _) (hk (w.heap.size,b1,b8,bd) _ _ rfl (fun j hj hdj=>?_) ⟨hH'.zqc _,fun h1 h2=>⟨(hX h1 h2).1.but ((But.refl _ _).alloc _),(hX h1 h2).2⟩⟩)
 have:j=0∨j=1∨j=2∨j=3∨j=4∨j=5∨j=6∨j=7∨j=8∨j=9∨j=10∨j=11∨j=12∨j=13∨j=14∨j=15∨j=16:=by omega
 rcases this with rfl|rfl|rfl|rfl|rfl|rfl|rfl|rfl|rfl|rfl|rfl|rfl|rfl|rfl|rfl|rfl|rfl
 all_goals first
  | rfl
  | (rw[hdi] at hdj;simp at hdj)
  | (exfalso;first | (have:=(hH'.hr hdj).1;simp at this) | (have:=(hH'.hr (hH'.hz hdj)).1;simp at this)))
 ·(
 obtain rfl:=so (show jk[1]? =some qah from rfl) ho
 rw[hdi] at hH'
 refine zh (jy a w _ _ _ _) (hk (b0,w.heap.size,b8,bd) _ _ rfl (fun j hj hdj=>?_) ⟨hH'.zqb _,fun h1 h2=>⟨(hX h1 h2).1.but ((But.refl _ _).alloc _),fun _=>Nat.ne_of_lt (hX h1 h2).1.lt⟩⟩)
 have:j=0∨j=1∨j=2∨j=3∨j=4∨j=5∨j=6∨j=7∨j=8∨j=9∨j=10∨j=11∨j=12∨j=13∨j=14∨j=15∨j=16:=by omega
 rcases this with rfl|rfl|rfl|rfl|rfl|rfl|rfl|rfl|rfl|rfl|rfl|rfl|rfl|rfl|rfl|rfl|rfl
 all_goals first
  | rfl
  | (rw[hdi] at hdj;simp at hdj)
  | (exfalso;have:=(hH'.hp hdj).1;simp at this))
 ·obtain rfl:=so (show jk[2]? =some qag from rfl) ho
  exact zh (jh a w _ _ _ _ _ _ e1') (hk (b0,b1,b8,bd) _ _ rfl (fun _ _ _=>rfl) hH)
 ·obtain rfl:=so (show jk[3]? =some qaf from rfl) ho
  exact zh (zaf a w _ _ _ _ _ _ 0 (hD 2 (by simp)).2) (hk (b0,b1,b8,bd) _ _ rfl (fun _ _ _=>rfl) hH)
 ·obtain rfl:=so (show jk[4]? =some qae from rfl) ho
  exact zh (ic a w _ _ _ _ _ _ (hD 3 (by simp)).2 (by omega)) (hk (b0,b1,b8,bd) _ _ rfl (fun _ _ _=>rfl) hH)
 ·obtain rfl:=so (show jk[5]? =some qad from rfl) ho
  exact zh (jh a w _ _ _ _ _ _ e2') (hk (b0,b1,b8,bd) _ _ rfl (fun _ _ _=>rfl) hH)
 ·(
 obtain rfl:=so (show jk[6]? =some qac from rfl) ho
 refine qz (yu a w _ _ _ _ _ _ (hD 5 (by simp)).2) (R:=fun w' v=>∃ q,v=.pointer (some ⟨q,0,none⟩)∧w.heap.size≤q∧But [] w w'∧ze w' q 0 1) ((zdj yb w (hy.but hB)).mono (fun e w' ⟨q,h1,h2,h3,h4⟩=>⟨_,h1,q,rfl,h2,h3,h4⟩)) ?_
 rintro v w' ⟨q,rfl,hq,hb,hI⟩
 refine hk (b0,b1,b8,q) _ _ rfl (fun j hj hdj=>?_) ⟨hH'.stay hb,fun _ _=>⟨by rw[hny1];exact hI,fun h1=>Ne.symm (Nat.ne_of_lt (Nat.lt_of_lt_of_le (hH'.s1 h1).2.1 hq))⟩⟩
 have:j=0∨j=1∨j=2∨j=3∨j=4∨j=5∨j=6∨j=7∨j=8∨j=9∨j=10∨j=11∨j=12∨j=13∨j=14∨j=15∨j=16:=by omega
 rcases this with rfl|rfl|rfl|rfl|rfl|rfl|rfl|rfl|rfl|rfl|rfl|rfl|rfl|rfl|rfl|rfl|rfl
 all_goals first
  | rfl
  | (rw[hdi] at hdj;simp at hdj))
 ·(
 obtain rfl:=so (show jk[7]? =some qab from rfl) ho
 have hs1:=hH'.s1 (hD 1 (by simp)).1
 rw[hdi] at hs1
 refine qz (ku a w _ _ _ _ _ _ _ _ _ _ (hD 1 (by simp)).2 (hD 4 (by simp)).2 (hD 6 (by simp)).2) (R:=fun w' v=>v=.pointer (some ⟨b1,0,none⟩)∧But [] W0.drew w'∧ze w' b1 0 P∧(∀ B,B≠b1→Slot w B 0→Slot w' B 0)∧(∀ b o z',b≠b1→ze w b o z'→ze w' b o z')∧w.heap.size≤w'.heap.size) ((oz b1 xb 0 bd 0 x (ny:Int) P hP W0.drew w (hs1.2.2 rfl) hH'.but hs1.1 ((ze.drew hx.up).but hH'.but) (hX (hD 6 (by simp)).1 hdi).1 (Ne.symm (Nat.ne_of_lt (Nat.lt_of_lt_of_le lx hs1.1))) (Ne.symm ((hX (hD 6 (by simp)).1 hdi).2 (hD 1 (by simp)).1)) hxl (by rw[Int.natAbs_natCast];exact hnyl) hPl).mono (fun e w' h=>⟨_,h.1,rfl,h.2⟩)) ?_
 rintro v w' ⟨rfl,k1,k2,k3,k4,k5⟩
 rw[hdi,(hD 1 (by simp)).1] at hH'
 refine hk (b0,b1,b8,bd) _ _ rfl (fun _ _ _=>rfl) ⟨?_,fun _ h2=>absurd h2 (by rw[ek];simp)⟩
 show jr W0.drew P Z R b0 b1 b8 (d 0) (d 1) (d 8) true (d 14) (d 15) (d 16) w'
 rw[(hD 1 (by simp)).1]
 exact hH'.qeo k1 k2 k3 k4 k5)
 ·(
 obtain rfl:=so (show jk[8]? =some qaa from rfl) ho
 rw[hdi] at hH'
 refine zh (jy a w _ _ _ _) (hk (b0,b1,w.heap.size,bd) _ _ rfl (fun j hj hdj=>?_) ⟨hH'.zqa _,fun h1 h2=>⟨(hX h1 h2).1.but ((But.refl _ _).alloc _),(hX h1 h2).2⟩⟩)
 have:j=0∨j=1∨j=2∨j=3∨j=4∨j=5∨j=6∨j=7∨j=8∨j=9∨j=10∨j=11∨j=12∨j=13∨j=14∨j=15∨j=16:=by omega
 rcases this with rfl|rfl|rfl|rfl|rfl|rfl|rfl|rfl|rfl|rfl|rfl|rfl|rfl|rfl|rfl|rfl|rfl
 all_goals first
  | rfl
  | (rw[hdi] at hdj;simp at hdj)
  | (exfalso;have:=(hH'.hq hdj).1;simp at this))
 ·obtain rfl:=so (show jk[9]? =some zzz from rfl) ho
  exact zh (jh a w _ _ _ _ _ _ e2') (hk (b0,b1,b8,bd) _ _ rfl (fun _ _ _=>rfl) hH)
 ·obtain rfl:=so (show jk[10]? =some zty from rfl) ho
  exact zh (zaf a w _ _ _ _ _ _ 0 (hD 9 (by simp)).2) (hk (b0,b1,b8,bd) _ _ rfl (fun _ _ _=>rfl) hH)
 ·obtain rfl:=so (show jk[11]? =some ztx from rfl) ho
  exact zh (ic a w _ _ _ _ _ _ (hD 10 (by simp)).2 (by omega)) (hk (b0,b1,b8,bd) _ _ rfl (fun _ _ _=>rfl) hH)
 ·obtain rfl:=so (show jk[12]? =some ztw from rfl) ho
  exact zh (jh a w _ _ _ _ _ _ e1') (hk (b0,b1,b8,bd) _ _ rfl (fun _ _ _=>rfl) hH)
 ·obtain rfl:=so (show jk[13]? =some ztv from rfl) ho
  refine qz (yu a w _ _ _ _ _ _ (hD 12 (by simp)).2) (R:=fun w' v=>v=.pointer (some ⟨xb,2,none⟩)∧w'=w) ((j4 xb x nx w (hx.but hB) hnx).mono (fun e w' h=>⟨_,h.1,rfl,h.2⟩)) ?_
  rintro v w' ⟨rfl,rfl⟩
  exact hk (b0,b1,b8,bd) _ _ rfl (fun _ _ _=>rfl) hH
 ·(
 obtain rfl:=so (show jk[14]? =some ztu from rfl) ho
 have hs1:=hH'.s8 (hD 8 (by simp)).1
 rw[hdi] at hs1
 refine qz (ku a w _ _ _ _ _ _ _ _ _ _ (hD 8 (by simp)).2 (hD 11 (by simp)).2 (hD 13 (by simp)).2) (R:=fun w' v=>v=.pointer (some ⟨b8,0,none⟩)∧But [] W0.drew w'∧ze w' b8 0 Z∧(∀ B,B≠b8→Slot w B 0→Slot w' B 0)∧(∀ b o z',b≠b8→ze w b o z'→ze w' b o z')∧w.heap.size≤w'.heap.size) ((ji b8 yb 0 xb 2 y (nx:Int) Z hZ W0.drew w (hs1.2.2 rfl) hH'.but hs1.1 (by rw[hy0];exact hy.1) hx.drew.low hyl (by rw[Int.natAbs_natCast];exact hnxl) hZl).mono (fun e w' h=>⟨_,h.1,rfl,h.2⟩)) ?_
 rintro v w' ⟨rfl,k1,k2,k3,k4,k5⟩
 rw[hdi,(hD 8 (by simp)).1] at hH'
 refine hk (b0,b1,b8,bd) _ _ rfl (fun _ _ _=>rfl) ⟨?_,fun _ h2=>absurd ((hD 13 (by simp)).1.symm.trans (hCl.not zwm (i:=13) (j:=7) (by simp) h2)) (by simp)⟩
 show jr W0.drew P Z R b0 b1 b8 (d 0) (d 1) (d 8) (d 7) true (d 15) (d 16) w'
 rw[(hD 8 (by simp)).1]
 exact hH'.qen k1 k2 k3 k4 k5)
 ·(
 obtain rfl:=so (show jk[15]? =some ztt from rfl) ho
 have d0:=(hD 0 (by simp)).1
 have hs1:=hH'.s0 d0
 rw[hdi] at hs1
 have hp7:=hH'.hp (hD 7 (by simp)).1
 have hq14:=hH'.hq (hD 14 (by simp)).1
 refine qz (zgv a w _ _ _ _ _ _ _ _ _ _ (hD 0 (by simp)).2 (hD 7 (by simp)).2 (hD 14 (by simp)).2) (R:=fun w' v=>v=.pointer (some ⟨b0,0,none⟩)∧But [] W0.drew w'∧ze w' b0 0 R∧(∀ B,B≠b0→Slot w B 0→Slot w' B 0)∧(∀ b o z',b≠b0→ze w b o z'→ze w' b o z')∧w.heap.size≤w'.heap.size) ((zjn b0 0 b1 0 b8 0 P Z R w (hs1.2.2 rfl) (hH'.n01 d0 hp7.1) (hH'.n08 d0 hq14.1) hp7.2 hq14.2 hPl hZl (by omega) hR).mono (fun e w' h=>by
  obtain⟨h1,w1,v,h2,h3,rfl⟩:=h
  exact⟨_,h1,rfl,zdw (hs1.2.2 rfl) hH'.but hs1.1 h2 h3⟩)) ?_
 rintro v w' ⟨rfl,k1,k2,k3,k4,k5⟩
 rw[hdi,d0] at hH'
 refine hk (b0,b1,b8,bd) _ _ rfl (fun _ _ _=>rfl) ⟨?_,fun _ h2=>absurd ((hD 7 (by simp)).1.symm.trans h2) (by simp)⟩
 show jr W0.drew P Z R b0 b1 b8 (d 0) (d 1) (d 8) (d 7) (d 14) true (d 16) w'
 rw[d0]
 exact hH'.zcs k1 k2 k3 k4 k5)
 ·(
 obtain rfl:=so (show jk[16]? =some zts from rfl) ho
 have d15:=(hD 15 (by simp)).1
 rw[d15] at hH'
 refine zh (zgx a w _ _ _ _ _ _ (hD 15 (by simp)).2) (hk (b0,b1,b8,bd) _ _ rfl (fun _ _ _=>rfl) ⟨?_,fun _ h2=>absurd ((hD 7 (by simp)).1.symm.trans h2) (by simp)⟩)
 show jr W0.drew P Z R b0 b1 b8 (d 0) (d 1) (d 8) (d 7) (d 14) (d 15) true w
 rw[d15]
 exact hH'.done))
 ·rintro ⟨b0,b1,b8,bd⟩ d w hd hH
  have hH':jr W0.drew P Z R b0 b1 b8 (d 0) (d 1) (d 8) (d 7) (d 14) (d 15) (d 16) w:=hH.1
  exact hQ w b0 b1 b8 bd (hdr hH'.but) (hH'.s0 (hd 0 (by omega))).1 (hH'.hr (hd 15 (by omega))).2)
theorem zrj (zb xb yb:Nat) (x y:Int) (nx ny:Nat) (w:World) (hz0:Slot w zb 0) (hz2:Slot w zb 2) (hx:zu w xb x (nx:Int)) (hy:yh w yb) (hy0:y=0) (hny1:(ny:Int)=1) (hnx:0<nx) (hxl:(wd 4294967296 x.natAbs).length<8388608) (hyl:(wd 4294967296 y.natAbs).length<8388608) (hnxl:(wd 4294967296 nx).length<8388608) (hnyl:(wd 4294967296 ny).length<8388608) (P Z R D:Int) (hP:x*(ny:Int)=P) (hZ:y*(nx:Int)=Z) (hR:R=P-Z) (hD:(nx:Int)*(ny:Int)=D) (hPl:(wd 4294967296 P.natAbs).length<8388608) (hZl:(wd 4294967296 Z.natAbs).length<8388608) (hRl:(wd 4294967296 R.natAbs).length<8388608) (hDl:(wd 4294967296 D.natAbs).length<8388608) (hD0:D≠0) (A B:Int) (eA:Hid (A=zdb (if D<0 then -R else R) D.natAbs)) (eB:Hid (B=zdc R D.natAbs)) :
   Calls prog 158 #[.pointer (some ⟨zb,0,none⟩),.pointer (some ⟨xb,0,none⟩),.pointer (some ⟨yb,0,none⟩)] w fun e w'=>e=.returned (.pointer (some ⟨zb,0,none⟩))∧But [zb] w w'∧zu w' zb A B:=by(
 have HX:=af hx
 have HY:=af hy
 have HZ0:=af hz0
 have HZ2:=af hz2
 have REG:=af (fun (Q:Exit→Act→World→Prop) (base:Act) (hs:23<base.tmps.size) (e1:base.eval (.tmp 1)=.pointer (some ⟨xb,0,none⟩)) (e2:base.eval (.tmp 2)=.pointer (some ⟨yb,0,none⟩))=>zua 1 Q base w xb yb x y P Z R nx ny hs e1 e2 hx hy hy0 hny1 hnx hxl hyl hnxl hnyl hP hZ hR hPl hZl hRl)
 have DX:=af (fun W (h:zu W xb x (nx:Int))=>j4 xb x nx W h hnx)
 have DY:=af (fun W (h:yh W yb)=>zdj yb W h)
 have MU:=af (fun (A q:Nat) (w P:World) (hs:Slot P A 0) (hw:But [] w P) (hA:w.heap.size≤A) (hx:zu P xb x (nx:Int)) (hy:ze P q 0 1) (n1:A≠xb) (n2:A≠q)=>oz A xb 2 q 0 (nx:Int) (ny:Int) D hD w P hs hw hA hx.low (by rw[hny1];exact hy) n1 n2 (by rw[Int.natAbs_natCast];exact hnxl) (by rw[Int.natAbs_natCast];exact hnyl) hDl)
 have SF:=af (fun (b0 b1:Nat) (W:World) (h0:Slot W zb 0) (h2:Slot W zb 2) (ha:ze W b0 0 R) (hb:ze W b1 0 D)=>bf zb b0 0 b1 0 R D W h0 h2 ha hb hRl hDl hD0 A B eA eB)
 clear hx hy hz0 hz2 hnx hy0 hny1 hxl hyl hnxl hnyl hP hZ hR hD hPl hZl hRl hDl hD0 eA eB
 go_enter func158,ntmps158
 go_wp2_with fail
 refine ae REG _ _ (by simp) (by simp[Act.eval]) (by simp[Act.eval]) ?_
 intro w1 b0 b1 b8 bd hb1 hb0 hI
 simp only[bk,List.foldl_cons,List.foldl_nil,Act.put,List.setIfInBounds_toArray,List.set_cons_zero,List.set_cons_succ]
 obtain⟨W0,hW0⟩:∃ W0,W0=w1.alloc (.cells #[.bool false,.slice none 0 0] 111):=⟨_,rfl⟩
 have hs:=jb w1 111
 rw[← hW0] at hs
 have hbw:But [] w1 W0:=by rw[hW0];exact (But.refl _ _).alloc _
 have hb2:=hb1.trans' hbw
 have K0:=af (And.intro hs (And.intro hbw (And.intro hb1 (And.intro hb0 hI))))
 have KX:=af ((ae HX).but hb2)
 have KY:=af ((ae HY).but hb2)
 have HW0:=af hW0
 clear hW0 hs hbw hb1 hb0 hb2 hI
 obtain⟨g,hg⟩:∃ g,g=w1.heap.size:=⟨_,rfl⟩
 go_wp2_with fail
 rw[← ae HW0,← hg]
 rw[← hg] at K0
 have HG:=af hg
 clear hg
 refine (ae DX _ (ae KX)).mono ?_
 rintro e w2 ⟨rfl,hw⟩
 obtain rfl:=hw.symm
 clear hw
 go_wp2_with fail
 refine (ae DY _ (ae KY)).mono ?_
 rintro e w2 ⟨q,rfl,hq,hbq,hIq⟩
 have hlg:g<W0.heap.size:=(ae K0).1.lt
 have KX2:=af ((ae KX).but hbq)
 have KQ:=af (And.intro hIq (And.intro ((ae K0).1.but hbq (by simp)) (And.intro ((ae K0).2.1.trans' hbq) (Nat.ne_of_lt (Nat.lt_of_lt_of_le hlg hq)))))
 clear hq hbq hIq hlg
 go_wp2_with fail
 refine (ae MU g q w1 w2 (ae KQ).2.1 (ae KQ).2.2.1 (Nat.le_of_eq (ae HG).symm) (ae KX2) (ae KQ).1 (by
  have h1:=(ae HX).lt
  have h2:=(ae K0).2.2.1.size
  have h3:=ae HG
  omega) (ae KQ).2.2.2).mono ?_
 rintro e w4 ⟨rfl,k1,k2,k3,k4,k5⟩
 have FIN:Hid (Slot w4 zb 0∧Slot w4 zb 2∧ze w4 b0 0 R∧ze w4 g 0 D∧But [] w w4):=by
  obtain⟨hs,hbw,hb1,hb0,hI⟩:=ae K0
  have hb3:=hb1.trans' k1
  exact⟨(ae HZ0).but hb3 (by simp),(ae HZ2).but hb3 (by simp),hI.but k1,k2,hb3⟩
 clear k1 k2 k3 k4 k5 K0 KX KY KX2 KQ HW0 HG MU DX DY REG HX HY HZ0 HZ2
 go_wp2_with fail
 refine (ae SF b0 g _ (ae FIN).1 (ae FIN).2.1 (ae FIN).2.2.1 (ae FIN).2.2.2.1).mono ?_
 rintro e w3 ⟨rfl,k1,k2⟩
 have F3:=af (And.intro ((ae FIN).2.2.2.2.of_nil.trans k1 (fun x hx=>.inl hx)) k2)
 clear k1 k2 FIN SF
 go_wp2
 go_ret
 exact⟨rfl,(ae F3).1,(ae F3).2⟩)
theorem zox (xb yb:Nat) (f g:Rat) (w:World) (hg0:g=0) (hx:zi w xb f) (hy:yh w yb) (lf:qd f 2000000) (lg:qd g 2000000) :
   Calls prog 71 #[.pointer (some ⟨xb,0,none⟩),.pointer (some ⟨yb,0,none⟩)] w fun e w'=>∃ zb,e=.returned (.pointer (some ⟨zb,0,none⟩))∧But [] w w'∧zi w' zb (f-g)∧w.heap.size≤zb:=by(
 have hfd:0<f.den:=Nat.pos_of_ne_zero f.den_nz
 have hgd:0<g.den:=Nat.pos_of_ne_zero g.den_nz
 have hQ0:(f.den:Int)*(g.den:Int)≠0:=Int.mul_ne_zero (by omega) (by omega)
 obtain⟨e1,e2⟩:=zdq (f.num*(g.den:Int)-g.num*(f.den:Int)) ((f.den:Int)*(g.den:Int)) hQ0 (f-g) (zgk f g)
 obtain⟨W0,hW0⟩:∃ W0,W0=w.alloc (.cells #[.bool false,.slice none 0 0,.bool false,.slice none 0 0] 113):=⟨_,rfl⟩
 have hs:=zbm w 113
 have hbw:But [] w W0:=by rw[hW0];exact (But.refl _ _).alloc _
 rw[← hW0] at hs
 obtain⟨lf1,lf2⟩:=lf
 obtain⟨lg1,lg2⟩:=lg
 have d1:(wd 4294967296 ((f.den:Nat):Int).natAbs).length≤2000000:=by rw[Int.natAbs_natCast];exact lf2
 have d2:(wd 4294967296 ((g.den:Nat):Int).natAbs).length≤2000000:=by rw[Int.natAbs_natCast];exact lg2
 have p1:=qp f.num (g.den:Int) _ _ lf1 d2
 have p2:=qp g.num (f.den:Int) _ _ lg1 d1
 have p3:=qp (f.den:Int) (g.den:Int) _ _ d1 d2
 have p4:=zdv _ _ _ p1 p2
 have MU:=af (zrj w.heap.size xb yb f.num g.num f.den g.den W0 hs.1 hs.2 (zu.but hx hbw) (hy.but hbw) (by rw[hg0];rfl) (by rw[hg0];rfl) hfd (by omega) (by omega) (by omega) (by omega) _ _ _ _ rfl rfl rfl rfl (by omega) (by omega) (by omega) (by omega) hQ0 (f-g).num ((f-g).den:Int) e1 e2)
 have HW0:=af hW0
 have HBW:=af hbw
 clear hW0 hbw hs e1 e2 hQ0 p1 p2 p3 p4 d1 d2 lf1 lf2 lg1 lg2 hx hy hfd hgd
 go_enter func71,ntmps71
 go_wp2_with fail
 rw[← ae HW0]
 refine (ae MU).mono ?_
 rintro e w1 ⟨rfl,h1,h2⟩
 have FIN:=af (And.intro ((ae HBW).trans h1 (by simp)) h2)
 clear h1 h2 MU
 go_wp2
 go_ret
 exact⟨w.heap.size,rfl,(ae FIN).1,(ae FIN).2,Nat.le_refl _⟩)
end Go.Proofs.YtagmkkiagjmimaaGreatDoor
