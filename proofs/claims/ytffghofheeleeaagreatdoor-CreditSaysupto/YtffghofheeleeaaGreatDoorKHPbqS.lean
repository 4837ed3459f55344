/- A sum whose first number is a new one: i -/
import Derived.Test.YtffghofheeleeaaGreatDoorKHG
import Derived.Test.YtffghofheeleeaaGreatDoorKHQ
namespace Go.Proofs.YtffghofheeleeaaGreatDoor
open Go.Proofs.Tryz
open Go.RowKit
set_option maxHeartbeats 32000000
set_option maxRecDepth 100000
set_option linter.unusedVariables false
def qz (w:World) (b:Nat):Prop:=zh w b 0 0∧w.cell? ⟨b,2,none⟩=some (.bool false)∧w.cell? ⟨b,3,none⟩=some (.slice none 0 0)
theorem qz.but {w w':World} {b:Nat} (h:qz w b) (hb:But [] w w'):qz w' b:=⟨h.1.but hb,hb.ag h.2.1 (by simp),hb.ag h.2.2 (by simp)⟩
theorem qz.lt {w:World} {b:Nat} (h:qz w b):b<w.heap.size:=h.1.lt
theorem znu (w:World) (t:TypeId):qz (w.alloc (.cells #[.bool false,.slice none 0 0,.bool false,.slice none 0 0] t)) w.heap.size:=by
 refine⟨⟨by simp,.slice none 0 0,by simp,?_⟩,by simp,by simp⟩
 have h0:wd 4294967296 (0:Int).natAbs=[]:=by rw[oh (by omega)];rfl
 rw[h0]
 exact⟨none,0,rfl,Nat.le_refl _,fun i hi=>by simp at hi,fun b off e h1=>by simp at h1⟩
theorem zbi (b:Nat) (w:World) (h:qz w b) :
  Calls prog 108 #[.pointer (some ⟨b,0,none⟩)] w fun e w'=>∃ q,e=.returned (.pointer (some ⟨q,0,none⟩))∧w.heap.size≤q∧But [] w w'∧zh w' q 0 1:=by
 obtain⟨-,c2,c3⟩:=h
 go_enter func108,ntmps108
 go_wp2_with fail
 refine (uw 1 _ (by omega) (by omega)).mono ?_
 rintro e w1 ⟨rfl,hb,hI,-⟩
 go_wp2
 go_ret
 exact⟨_,rfl,Nat.le_refl _,hb,hI⟩
theorem uy (A b1 o1 b2 o2:Nat) (x y z:Int) (hz:x*y=z) (w P:World) (hs:Slot P A 0) (hw:But [] w P) (hA:w.heap.size≤A) (hx:zh P b1 o1 x) (hy:zh P b2 o2 y) (n1:A≠b1) (n2:A≠b2) (hlx:(wd 4294967296 x.natAbs).length<8388608) (hly:(wd 4294967296 y.natAbs).length<8388608) (hlz:(wd 4294967296 z.natAbs).length<8388608) :
  Calls prog 110 #[.pointer (some ⟨A,0,none⟩),.pointer (some ⟨b1,o1,none⟩),.pointer (some ⟨b2,o2,none⟩)] P fun e W1=>e=.returned (.pointer (some ⟨A,0,none⟩))∧But [] w W1∧zh W1 A 0 z∧(∀ B,B≠A→Slot P B 0→Slot W1 B 0)∧(∀ b o z,b≠A→zh P b o z→zh W1 b o z)∧P.heap.size≤W1.heap.size:=by
 refine (zkj A 0 b1 o1 b2 o2 x y P hs n1 n2 hx hy (by omega) (by omega) (by rw[← Int.natAbs_mul,hz];omega)).mono ?_
 rintro e W1 ⟨rfl,w1,v,hb,hv,rfl⟩
 rw[hz] at hv ⊢
 have hs1:=hs.but hb (by simp)
 exact⟨rfl,(hw.trans' hb).trans (zdz ..) (by simp;exact hA),zdy hs1 _ _ hv,fun B hB hS=>dw _ _ (hS.but hb (by simp)) (.inl hB),fun b o z' hB hI=>oo hs1 _ _ (hI.but hb) (.inl hB),by rw[zgd];exact hb.size⟩
theorem yc.stay {W:World} {P Q R:Int} {b0 b1 b8:Nat} {a0 a1 a8 p q r z:Bool} {w w':World} (h:yc W P Q R b0 b1 b8 a0 a1 a8 p q r z w) (hb:But [] w w'):yc W P Q R b0 b1 b8 a0 a1 a8 p q r z w' :=
 ⟨h.but.trans' hb,fun e=>⟨(h.s0 e).1,Nat.lt_of_lt_of_le (h.s0 e).2.1 hb.size,fun k=>((h.s0 e).2.2 k).but hb (by simp)⟩,fun e=>⟨(h.s1 e).1,Nat.lt_of_lt_of_le (h.s1 e).2.1 hb.size,fun k=>((h.s1 e).2.2 k).but hb (by simp)⟩,fun e=>⟨(h.s8 e).1,Nat.lt_of_lt_of_le (h.s8 e).2.1 hb.size,fun k=>((h.s8 e).2.2 k).but hb (by simp)⟩,
  h.n01,h.n08,h.n18,fun e=>⟨(h.hp e).1,(h.hp e).2.but hb⟩,fun e=>⟨(h.hq e).1,(h.hq e).2.but hb⟩,fun e=>⟨(h.hr e).1,(h.hr e).2.but hb⟩,h.hz⟩
def qzd (xb yb:Nat) (N:Nat × Nat × Nat × Nat) (i:Nat):Value:=match i with
 | 0=>.pointer (some ⟨N.1,0,none⟩)
 | 1=>.pointer (some ⟨N.2.1,0,none⟩)
 | 2=>.pointer (some ⟨xb,0,none⟩)
 | 3=>.pointer (some ⟨xb,0,none⟩)
 | 4=>.pointer (some ⟨xb,0,none⟩)
 | 5=>.pointer (some ⟨yb,0,none⟩)
 | 6=>.pointer (some ⟨yb,2,none⟩)
 | 7=>.pointer (some ⟨N.2.1,0,none⟩)
 | 8=>.pointer (some ⟨N.2.2.1,0,none⟩)
 | 9=>.pointer (some ⟨yb,0,none⟩)
 | 10=>.pointer (some ⟨yb,0,none⟩)
 | 11=>.pointer (some ⟨yb,0,none⟩)
 | 12=>.pointer (some ⟨xb,0,none⟩)
 | 13=>.pointer (some ⟨N.2.2.2,0,none⟩)
 | 14=>.pointer (some ⟨N.2.2.1,0,none⟩)
 | 15=>.pointer (some ⟨N.1,0,none⟩)
 | _=>.pointer (some ⟨N.1,0,none⟩)
theorem qrh:zab ky [(3,2),(4,3),(6,5),(7,1),(7,4),(7,6),(10,9),(11,10),(13,7),(13,12),(14,8),(14,11),(14,13),(15,0),(15,7),(15,14),(16,0),(16,1),(16,2),(16,3),(16,4),(16,5),(16,6),(16,7),(16,8),(16,9),(16,10),(16,11),(16,12),(16,13),(16,14),(16,15)]=true:=by kernel_rfl
theorem qeo (id:Nat) (Q:Exit→Act→World→Prop) (base:Act) (W0:World) (xb yb:Nat) (x y P Z R:Int) (nx ny:Nat) (hs:23<base.tmps.size) (e1:base.eval (.tmp 1)=.pointer (some ⟨xb,0,none⟩)) (e2:base.eval (.tmp 2)=.pointer (some ⟨yb,0,none⟩))
  (hx:qz W0 xb) (hx0:x=0) (hnx1:(nx:Int)=1) (hy:zw W0 yb y (ny:Int)) (hny:0<ny) (hxl:(wd 4294967296 x.natAbs).length<8388608) (hyl:(wd 4294967296 y.natAbs).length<8388608) (hnxl:(wd 4294967296 nx).length<8388608) (hnyl:(wd 4294967296 ny).length<8388608) (hP:x*(ny:Int)=P) (hZ:y*(nx:Int)=Z) (hR:R=P+Z) (hPl:(wd 4294967296 P.natAbs).length<8388608) (hZl:(wd 4294967296 Z.natAbs).length<8388608) (hRl:(wd 4294967296 R.natAbs).length<8388608)
  (hQ:∀ w b0 b1 b8 bd,But [] W0 w→W0.heap.size≤b0→zh w b0 0 R→Q .normal (bk base [(8,.pointer (some ⟨b0,0,none⟩)),(9,.pointer (some ⟨b1,0,none⟩)),(10,.pointer (some ⟨xb,0,none⟩)),(11,.pointer (some ⟨xb,0,none⟩)),(12,.pointer (some ⟨xb,0,none⟩)),(13,.pointer (some ⟨yb,0,none⟩)),(14,.pointer (some ⟨yb,2,none⟩)),(15,.pointer (some ⟨b1,0,none⟩)),(16,.pointer (some ⟨b8,0,none⟩)),(17,.pointer (some ⟨yb,0,none⟩)),(18,.pointer (some ⟨yb,0,none⟩)),(19,.pointer (some ⟨yb,0,none⟩)),(20,.pointer (some ⟨xb,0,none⟩)),(21,.pointer (some ⟨bd,0,none⟩)),(22,.pointer (some ⟨b8,0,none⟩)),(23,.pointer (some ⟨b0,0,none⟩)),(7,.pointer (some ⟨b0,0,none⟩))]) w) :
  (Code.region id ky true).wp prog Q base W0:=by
 have hdr:∀ {w},But [] W0.drew w→But [] W0 w:=fun h=>(But.refl _ _).drew.trans' h
 have hT:∀ i,i<17→zhv i<base.tmps.size:=fun i hi=>by
  have h:zhv i≤23:=by revert i;decide
  omega
 have lx:=hx.lt
 have ly:=hy.lt
 refine zbs (by kernel_rfl) (xu (by kernel_rfl)) (zaw (by kernel_rfl)) (α:=Nat × Nat × Nat × Nat) (fun N d w=>yc W0.drew P Z R N.1 N.2.1 N.2.2.1 (d 0) (d 1) (d 8) (d 7) (d 14) (d 15) (d 16) w∧(d 13=true→d 14=false→zh w N.2.2.2 0 (nx:Int)∧(d 8=true→N.2.2.2≠N.2.2.1))) (qzd xb yb) zhv 17 (by kernel_rfl) zvd hT (0,0,0,0) ?_ ?_ ?_
 ·exact⟨⟨But.refl _ _,by simp,by simp,by simp,by simp,by simp,by simp,by simp,by simp,by simp,by simp⟩,fun h=>by simp at h⟩
 ·rintro ⟨b0,b1,b8,bd⟩ d i o a w K hi ho hdi hCl hH he hdep hk
  have hH':yc W0.drew P Z R b0 b1 b8 (d 0) (d 1) (d 8) (d 7) (d 14) (d 15) (d 16) w:=hH.1
  have hX:d 13=true→d 14=false→zh w bd 0 (nx:Int)∧(d 8=true→bd≠b8):=hH.2
  have hD:=zco (ps:=[(3,2),(4,3),(6,5),(7,1),(7,4),(7,6),(10,9),(11,10),(13,7),(13,12),(14,8),(14,11),(14,13),(15,0),(15,7),(15,14),(16,0),(16,1),(16,2),(16,3),(16,4),(16,5),(16,6),(16,7),(16,8),(16,9),(16,10),(16,11),(16,12),(16,13),(16,14),(16,15)]) (by kernel_rfl) ho (fun j=>d j=true∧a.eval (.tmp (zhv j))=qzd xb yb (b0,b1,b8,bd) j) hdep
  have e1':=(he 1 (fun j hj e=>absurd e.symm (by revert j;decide))).trans e1
  have e2':=(he 2 (fun j hj e=>absurd e.symm (by revert j;decide))).trans e2
  have hB:=hdr hH'.but
  have hlw:=hB.size
  have:i=0∨i=1∨i=2∨i=3∨i=4∨i=5∨i=6∨i=7∨i=8∨i=9∨i=10∨i=11∨i=12∨i=13∨i=14∨i=15∨i=16:=by omega
  rcases this with rfl|rfl|rfl|rfl|rfl|rfl|rfl|rfl|rfl|rfl|rfl|rfl|rfl|rfl|rfl|rfl|rfl
  ·obtain rfl:=so (show ky[0]? =some qpf from rfl) ho
   rw[hdi] at hH'
   refine zi (yt a w _ _ _ _) (hk (w.heap.size,b1,b8,bd) _ _ rfl (fun j hj hdj=>?_) ⟨hH'.zxo _,fun h1 h2=>⟨(hX h1 h2).1.but ((But.refl _ _).alloc _),(hX h1 h2).2⟩⟩)
   have:j=0∨j=1∨j=2∨j=3∨j=4∨j=5∨j=6∨j=7∨j=8∨j=9∨j=10∨j=11∨j=12∨j=13∨j=14∨j=15∨j=16:=by omega
   rcases this with rfl|rfl|rfl|rfl|rfl|rfl|rfl|rfl|rfl|rfl|rfl|rfl|rfl|rfl|rfl|rfl|rfl
   all_goals first
    | rfl
    | (rw[hdi] at hdj;simp at hdj)
    | (exfalso;first | (have:=(hH'.hr hdj).1;simp at this) | (have:=(hH'.hr (hH'.hz hdj)).1;simp at this))
  ·obtain rfl:=so (show ky[1]? =some qpe from rfl) ho
   rw[hdi] at hH'
   refine zi (yt a w _ _ _ _) (hk (b0,w.heap.size,b8,bd) _ _ rfl (fun j hj hdj=>?_) ⟨hH'.zxn _,fun h1 h2=>⟨(hX h1 h2).1.but ((But.refl _ _).alloc _),(hX h1 h2).2⟩⟩)
   have:j=0∨j=1∨j=2∨j=3∨j=4∨j=5∨j=6∨j=7∨j=8∨j=9∨j=10∨j=11∨j=12∨j=13∨j=14∨j=15∨j=16:=by omega
   rcases this with rfl|rfl|rfl|rfl|rfl|rfl|rfl|rfl|rfl|rfl|rfl|rfl|rfl|rfl|rfl|rfl|rfl
   all_goals first
    | rfl
    | (rw[hdi] at hdj;simp at hdj)
    | (exfalso;have:=(hH'.hp hdj).1;simp at this)
  ·obtain rfl:=so (show ky[2]? =some qpd from rfl) ho
   exact zi (kg a w _ _ _ _ _ _ e1') (hk (b0,b1,b8,bd) _ _ rfl (fun _ _ _=>rfl) hH)
  ·obtain rfl:=so (show ky[3]? =some qpc from rfl) ho
   exact zi (zdd a w _ _ _ _ _ _ 0 (hD 2 (by simp)).2) (hk (b0,b1,b8,bd) _ _ rfl (fun _ _ _=>rfl) hH)
  ·obtain rfl:=so (show ky[4]? =some qpb from rfl) ho
   exact zi (ug a w _ _ _ _ _ _ (hD 3 (by simp)).2 (by omega)) (hk (b0,b1,b8,bd) _ _ rfl (fun _ _ _=>rfl) hH)
  ·obtain rfl:=so (show ky[5]? =some qpa from rfl) ho
   exact zi (kg a w _ _ _ _ _ _ e2') (hk (b0,b1,b8,bd) _ _ rfl (fun _ _ _=>rfl) hH)
  ·obtain rfl:=so (show ky[6]? =some qoz from rfl) ho
   refine jc (o8 a w _ _ _ _ _ _ (hD 5 (by simp)).2) (R:=fun w' v=>v=.pointer (some ⟨yb,2,none⟩)∧w'=w) ((ku yb y ny w (hy.but hB) hny).mono (fun e w' h=>⟨_,h.1,rfl,h.2⟩)) ?_
   rintro v w' ⟨rfl,rfl⟩
   exact hk (b0,b1,b8,bd) _ _ rfl (fun _ _ _=>rfl) hH
  ·obtain rfl:=so (show ky[7]? =some qoy from rfl) ho
   have hs1:=hH'.s1 (hD 1 (by simp)).1
   rw[hdi] at hs1
   refine jc (lv a w _ _ _ _ _ _ _ _ _ _ (hD 1 (by simp)).2 (hD 4 (by simp)).2 (hD 6 (by simp)).2) (R:=fun w' v=>v=.pointer (some ⟨b1,0,none⟩)∧But [] W0.drew w'∧zh w' b1 0 P∧(∀ B,B≠b1→Slot w B 0→Slot w' B 0)∧(∀ b o z',b≠b1→zh w b o z'→zh w' b o z')∧w.heap.size≤w'.heap.size) ((ji b1 xb 0 yb 2 x (ny:Int) P hP W0.drew w (hs1.2.2 rfl) hH'.but hs1.1 (by rw[hx0];exact hx.1) hy.drew.low hxl (by rw[Int.natAbs_natCast];exact hnyl) hPl).mono (fun e w' h=>⟨_,h.1,rfl,h.2⟩)) ?_
   rintro v w' ⟨rfl,k1,k2,k3,k4,k5⟩
   rw[hdi,(hD 1 (by simp)).1] at hH'
   refine hk (b0,b1,b8,bd) _ _ rfl (fun _ _ _=>rfl) ⟨?_,fun h1=>absurd ((hCl.not qrh (i:=13) (j:=7) (by simp) hdi).symm.trans h1) (by simp)⟩
   show yc W0.drew P Z R b0 b1 b8 (d 0) (d 1) (d 8) true (d 14) (d 15) (d 16) w'
   rw[(hD 1 (by simp)).1]
   exact hH'.qra k1 k2 k3 k4 k5
  ·obtain rfl:=so (show ky[8]? =some qox from rfl) ho
   rw[hdi] at hH'
   refine zi (yt a w _ _ _ _) (hk (b0,b1,w.heap.size,bd) _ _ rfl (fun j hj hdj=>?_) ⟨hH'.zxm _,fun h1 h2=>⟨(hX h1 h2).1.but ((But.refl _ _).alloc _),fun _=>Nat.ne_of_lt (hX h1 h2).1.lt⟩⟩)
   have:j=0∨j=1∨j=2∨j=3∨j=4∨j=5∨j=6∨j=7∨j=8∨j=9∨j=10∨j=11∨j=12∨j=13∨j=14∨j=15∨j=16:=by omega
   rcases this with rfl|rfl|rfl|rfl|rfl|rfl|rfl|rfl|rfl|rfl|rfl|rfl|rfl|rfl|rfl|rfl|rfl
   all_goals first
    | rfl
    | (rw[hdi] at hdj;simp at hdj)
    | (exfalso;have:=(hH'.hq hdj).1;simp at this)
  ·obtain rfl:=so (show ky[9]? =some qow from rfl) ho
   exact zi (kg a w _ _ _ _ _ _ e2') (hk (b0,b1,b8,bd) _ _ rfl (fun _ _ _=>rfl) hH)
  ·obtain rfl:=so (show ky[10]? =some qen from rfl) ho
   exact zi (zdd a w _ _ _ _ _ _ 0 (hD 9 (by simp)).2) (hk (b0,b1,b8,bd) _ _ rfl (fun _ _ _=>rfl) hH)
  ·obtain rfl:=so (show ky[11]? =some qem from rfl) ho
   exact zi (ug a w _ _ _ _ _ _ (hD 10 (by simp)).2 (by omega)) (hk (b0,b1,b8,bd) _ _ rfl (fun _ _ _=>rfl) hH)
  ·obtain rfl:=so (show ky[12]? =some qel from rfl) ho
   exact zi (kg a w _ _ _ _ _ _ e1') (hk (b0,b1,b8,bd) _ _ rfl (fun _ _ _=>rfl) hH)
  ·obtain rfl:=so (show ky[13]? =some qek from rfl) ho
   refine jc (o8 a w _ _ _ _ _ _ (hD 12 (by simp)).2) (R:=fun w' v=>∃ q,v=.pointer (some ⟨q,0,none⟩)∧w.heap.size≤q∧But [] w w'∧zh w' q 0 1) ((zbi xb w (hx.but hB)).mono (fun e w' ⟨q,h1,h2,h3,h4⟩=>⟨_,h1,q,rfl,h2,h3,h4⟩)) ?_
   rintro v w' ⟨q,rfl,hq,hb,hI⟩
   refine hk (b0,b1,b8,q) _ _ rfl (fun j hj hdj=>?_) ⟨hH'.stay hb,fun _ _=>⟨by rw[hnx1];exact hI,fun h8=>Ne.symm (Nat.ne_of_lt (Nat.lt_of_lt_of_le (hH'.s8 h8).2.1 hq))⟩⟩
   have:j=0∨j=1∨j=2∨j=3∨j=4∨j=5∨j=6∨j=7∨j=8∨j=9∨j=10∨j=11∨j=12∨j=13∨j=14∨j=15∨j=16:=by omega
   rcases this with rfl|rfl|rfl|rfl|rfl|rfl|rfl|rfl|rfl|rfl|rfl|rfl|rfl|rfl|rfl|rfl|rfl
   all_goals first
    | rfl
    | (rw[hdi] at hdj;simp at hdj)
  ·obtain rfl:=so (show ky[14]? =some qej from rfl) ho
   have hs1:=hH'.s8 (hD 8 (by simp)).1
   rw[hdi] at hs1
   refine jc (lv a w _ _ _ _ _ _ _ _ _ _ (hD 8 (by simp)).2 (hD 11 (by simp)).2 (hD 13 (by simp)).2) (R:=fun w' v=>v=.pointer (some ⟨b8,0,none⟩)∧But [] W0.drew w'∧zh w' b8 0 Z∧(∀ B,B≠b8→Slot w B 0→Slot w' B 0)∧(∀ b o z',b≠b8→zh w b o z'→zh w' b o z')∧w.heap.size≤w'.heap.size) ((uy b8 yb 0 bd 0 y (nx:Int) Z hZ W0.drew w (hs1.2.2 rfl) hH'.but hs1.1 ((zh.drew hy.up).but hH'.but) (hX (hD 13 (by simp)).1 hdi).1 (Ne.symm (Nat.ne_of_lt (Nat.lt_of_lt_of_le ly hs1.1))) (Ne.symm ((hX (hD 13 (by simp)).1 hdi).2 (hD 8 (by simp)).1)) hyl (by rw[Int.natAbs_natCast];exact hnxl) hZl).mono (fun e w' h=>⟨_,h.1,rfl,h.2⟩)) ?_
   rintro v w' ⟨rfl,k1,k2,k3,k4,k5⟩
   rw[hdi,(hD 8 (by simp)).1] at hH'
   refine hk (b0,b1,b8,bd) _ _ rfl (fun _ _ _=>rfl) ⟨?_,fun _ h2=>absurd h2 (by rw[ko];simp)⟩
   show yc W0.drew P Z R b0 b1 b8 (d 0) (d 1) (d 8) (d 7) true (d 15) (d 16) w'
   rw[(hD 8 (by simp)).1]
   exact hH'.qqz k1 k2 k3 k4 k5
  ·obtain rfl:=so (show ky[15]? =some qei from rfl) ho
   have d0:=(hD 0 (by simp)).1
   have hs1:=hH'.s0 d0
   rw[hdi] at hs1
   have hp7:=hH'.hp (hD 7 (by simp)).1
   have hq14:=hH'.hq (hD 14 (by simp)).1
   refine jc (zkz a w _ _ _ _ _ _ _ _ _ _ (hD 0 (by simp)).2 (hD 7 (by simp)).2 (hD 14 (by simp)).2) (R:=fun w' v=>v=.pointer (some ⟨b0,0,none⟩)∧But [] W0.drew w'∧zh w' b0 0 R∧(∀ B,B≠b0→Slot w B 0→Slot w' B 0)∧(∀ b o z',b≠b0→zh w b o z'→zh w' b o z')∧w.heap.size≤w'.heap.size) ((zos b0 0 b1 0 b8 0 P Z R w (hs1.2.2 rfl) (hH'.n01 d0 hp7.1) (hH'.n08 d0 hq14.1) hp7.2 hq14.2 hPl hZl (by omega) hR).mono (fun e w' h=>by
    obtain⟨h1,w1,v,h2,h3,rfl⟩:=h
    exact⟨_,h1,rfl,zhd (hs1.2.2 rfl) hH'.but hs1.1 h2 h3⟩)) ?_
   rintro v w' ⟨rfl,k1,k2,k3,k4,k5⟩
   rw[hdi,d0] at hH'
   refine hk (b0,b1,b8,bd) _ _ rfl (fun _ _ _=>rfl) ⟨?_,fun _ h2=>absurd ((hD 14 (by simp)).1.symm.trans h2) (by simp)⟩
   show yc W0.drew P Z R b0 b1 b8 (d 0) (d 1) (d 8) (d 7) (d 14) true (d 16) w'
   rw[d0]
   exact hH'.qpo k1 k2 k3 k4 k5
  ·obtain rfl:=so (show ky[16]? =some qeh from rfl) ho
   have d15:=(hD 15 (by simp)).1
   rw[d15] at hH'
   refine zi (zla a w _ _ _ _ _ _ (hD 15 (by simp)).2) (hk (b0,b1,b8,bd) _ _ rfl (fun _ _ _=>rfl) ⟨?_,fun _ h2=>absurd ((hD 14 (by simp)).1.symm.trans h2) (by simp)⟩)
   show yc W0.drew P Z R b0 b1 b8 (d 0) (d 1) (d 8) (d 7) (d 14) (d 15) true w
   rw[d15]
   exact hH'.done
 ·rintro ⟨b0,b1,b8,bd⟩ d w hd hH
  have hH':yc W0.drew P Z R b0 b1 b8 (d 0) (d 1) (d 8) (d 7) (d 14) (d 15) (d 16) w:=hH.1
  exact hQ w b0 b1 b8 bd (hdr hH'.but) (hH'.s0 (hd 0 (by omega))).1 (hH'.hr (hd 15 (by omega))).2
theorem zzb (zb xb yb:Nat) (x y:Int) (nx ny:Nat) (w:World) (hz0:Slot w zb 0) (hz2:Slot w zb 2) (hx:qz w xb) (hx0:x=0) (hnx1:(nx:Int)=1) (hy:zw w yb y (ny:Int)) (hny:0<ny) (hxl:(wd 4294967296 x.natAbs).length<8388608) (hyl:(wd 4294967296 y.natAbs).length<8388608) (hnxl:(wd 4294967296 nx).length<8388608) (hnyl:(wd 4294967296 ny).length<8388608) (P Z R D:Int) (hP:x*(ny:Int)=P) (hZ:y*(nx:Int)=Z) (hR:R=P+Z) (hD:(nx:Int)*(ny:Int)=D) (hPl:(wd 4294967296 P.natAbs).length<8388608) (hZl:(wd 4294967296 Z.natAbs).length<8388608) (hRl:(wd 4294967296 R.natAbs).length<8388608) (hDl:(wd 4294967296 D.natAbs).length<8388608) (hD0:D≠0) (A B:Int) (eA:Hid (A=zer (if D<0 then -R else R) D.natAbs)) (eB:Hid (B=zes R D.natAbs)) :
  Calls prog 112 #[.pointer (some ⟨zb,0,none⟩),.pointer (some ⟨xb,0,none⟩),.pointer (some ⟨yb,0,none⟩)] w fun e w'=>e=.returned (.pointer (some ⟨zb,0,none⟩))∧But [zb] w w'∧zw w' zb A B:=by
 have HX:=af hx
 have HY:=af hy
 have HZ0:=af hz0
 have HZ2:=af hz2
 have REG:=af (fun (Q:Exit→Act→World→Prop) (base:Act) (hs:23<base.tmps.size) (e1:base.eval (.tmp 1)=.pointer (some ⟨xb,0,none⟩)) (e2:base.eval (.tmp 2)=.pointer (some ⟨yb,0,none⟩))=>qeo 1 Q base w xb yb x y P Z R nx ny hs e1 e2 hx hx0 hnx1 hy hny hxl hyl hnxl hnyl hP hZ hR hPl hZl hRl)
 have DX:=af (fun W (h:qz W xb)=>zbi xb W h)
 have DY:=af (fun W (h:zw W yb y (ny:Int))=>ku yb y ny W h hny)
 have MU:=af (fun (A q:Nat) (w P:World) (hs:Slot P A 0) (hw:But [] w P) (hA:w.heap.size≤A) (hx:zh P q 0 1) (hy:zw P yb y (ny:Int)) (n1:A≠q) (n2:A≠yb)=>uy A q 0 yb 2 (nx:Int) (ny:Int) D hD w P hs hw hA (by rw[hnx1];exact hx) hy.low n1 n2 (by rw[Int.natAbs_natCast];exact hnxl) (by rw[Int.natAbs_natCast];exact hnyl) hDl)
 have SF:=af (fun (b0 b1:Nat) (W:World) (h0:Slot W zb 0) (h2:Slot W zb 2) (ha:zh W b0 0 R) (hb:zh W b1 0 D)=>yg zb b0 0 b1 0 R D W h0 h2 ha hb hRl hDl hD0 A B eA eB)
 clear hx hy hz0 hz2 hny hx0 hnx1 hxl hyl hnxl hnyl hP hZ hR hD hPl hZl hRl hDl hD0 eA eB
 go_enter func112,ntmps112
 go_wp2_with fail
 refine ae REG _ _ (by simp) (by simp[Act.eval]) (by simp[Act.eval]) ?_
 intro w1 b0 b1 b8 bd hb1 hb0 hI
 simp only[bk,List.foldl_cons,List.foldl_nil,Act.put,List.setIfInBounds_toArray,List.set_cons_zero,List.set_cons_succ]
 obtain⟨W0,hW0⟩:∃ W0,W0=w1.alloc (.cells #[.bool false,.slice none 0 0] 101):=⟨_,rfl⟩
 have hs:=jy w1 101
 rw[← hW0] at hs
 have hbw:But [] w1 W0:=by rw[hW0];exact (But.refl _ _).alloc _
 have hb2:=hb1.trans' hbw
 have K0:=af (And.intro hs (And.intro hbw (And.intro hb1 (And.intro hb0 hI))))
 have KX:=af ((ae HX).but hb2)
 have KY:=af ((ae HY).but hb2)
 have HW0:=af hW0
 clear hW0 hs hbw hb1 hb0 hb2 hI
 obtain⟨g,hg⟩:∃ g,g=w1.heap.size:=⟨_,rfl⟩
 go_wp2_with fail
 rw[← ae HW0,← hg]
 rw[← hg] at K0
 have HG:=af hg
 clear hg
 refine (ae DX _ (ae KX)).mono ?_
 rintro e w2 ⟨q,rfl,hq,hbq,hIq⟩
 have hlg:g<W0.heap.size:=(ae K0).1.lt
 have KY2:=af ((ae KY).but hbq)
 have KQ:=af (And.intro hIq (And.intro ((ae K0).1.but hbq (by simp)) (And.intro ((ae K0).2.1.trans' hbq) (Nat.ne_of_lt (Nat.lt_of_lt_of_le hlg hq)))))
 clear hq hbq hIq hlg
 go_wp2_with fail
 refine (ae DY _ (ae KY2)).mono ?_
 rintro e w3 ⟨rfl,hw⟩
 obtain rfl:=hw.symm
 clear hw
 go_wp2_with fail
 refine (ae MU g q w1 w2 (ae KQ).2.1 (ae KQ).2.2.1 (Nat.le_of_eq (ae HG).symm) (ae KQ).1 (ae KY2) (ae KQ).2.2.2 (by
  have h1:=(ae HY).lt
  have h2:=(ae K0).2.2.1.size
  have h3:=ae HG
  omega)).mono ?_
 rintro e w4 ⟨rfl,k1,k2,k3,k4,k5⟩
 have FIN:Hid (Slot w4 zb 0∧Slot w4 zb 2∧zh w4 b0 0 R∧zh w4 g 0 D∧But [] w w4):=by
  obtain⟨hs,hbw,hb1,hb0,hI⟩:=ae K0
  have hb3:=hb1.trans' k1
  exact⟨(ae HZ0).but hb3 (by simp),(ae HZ2).but hb3 (by simp),hI.but k1,k2,hb3⟩
 clear k1 k2 k3 k4 k5 K0 KX KY KY2 KQ HW0 HG MU DX DY REG HX HY HZ0 HZ2
 go_wp2_with fail
 refine (ae SF b0 g _ (ae FIN).1 (ae FIN).2.1 (ae FIN).2.2.1 (ae FIN).2.2.2.1).mono ?_
 rintro e w3 ⟨rfl,k1,k2⟩
 have F3:=af (And.intro ((ae FIN).2.2.2.2.of_nil.trans k1 (fun x hx=>.inl hx)) k2)
 clear k1 k2 FIN SF
 go_wp2
 go_ret
 exact⟨rfl,(ae F3).1,(ae F3).2⟩
theorem zwb (xb yb:Nat) (f g:Rat) (w:World) (hf0:f=0) (hx:qz w xb) (hy:za w yb g) (lf:zu f 2000000) (lg:zu g 2000000) :
  Calls prog 51 #[.pointer (some ⟨xb,0,none⟩),.pointer (some ⟨yb,0,none⟩)] w fun e w'=>∃ zb,e=.returned (.pointer (some ⟨zb,0,none⟩))∧But [] w w'∧za w' zb (f+g)∧w.heap.size≤zb:=by
 have hfd:0<f.den:=Nat.pos_of_ne_zero f.den_nz
 have hgd:0<g.den:=Nat.pos_of_ne_zero g.den_nz
 have hQ0:(f.den:Int)*(g.den:Int)≠0:=Int.mul_ne_zero (by omega) (by omega)
 obtain⟨e1,e2⟩:=zcr (f.num*(g.den:Int)+g.num*(f.den:Int)) ((f.den:Int)*(g.den:Int)) hQ0 (f+g) (zkl f g)
 obtain⟨W0,hW0⟩:∃ W0,W0=w.alloc (.cells #[.bool false,.slice none 0 0,.bool false,.slice none 0 0] 103):=⟨_,rfl⟩
 have hs:=zaq w 103
 have hbw:But [] w W0:=by rw[hW0];exact (But.refl _ _).alloc _
 rw[← hW0] at hs
 obtain⟨lf1,lf2⟩:=lf
 obtain⟨lg1,lg2⟩:=lg
 have d1:(wd 4294967296 ((f.den:Nat):Int).natAbs).length≤2000000:=by rw[Int.natAbs_natCast];exact lf2
 have d2:(wd 4294967296 ((g.den:Nat):Int).natAbs).length≤2000000:=by rw[Int.natAbs_natCast];exact lg2
 have p1:=qy f.num (g.den:Int) _ _ lf1 d2
 have p2:=qy g.num (f.den:Int) _ _ lg1 d1
 have p3:=qy (f.den:Int) (g.den:Int) _ _ d1 d2
 have p4:=zeb _ _ _ p1 p2
 have MU:=af (zzb w.heap.size xb yb f.num g.num f.den g.den W0 hs.1 hs.2 (hx.but hbw) (by rw[hf0];rfl) (by rw[hf0];rfl) (zw.but hy hbw) hgd (by omega) (by omega) (by omega) (by omega) _ _ _ _ rfl rfl rfl rfl (by omega) (by omega) (by omega) (by omega) hQ0 (f+g).num ((f+g).den:Int) e1 e2)
 have HW0:=af hW0
 have HBW:=af hbw
 clear hW0 hbw hs e1 e2 hQ0 p1 p2 p3 p4 d1 d2 lf1 lf2 lg1 lg2 hx hy hfd hgd
 go_enter func51,ntmps51
 go_wp2_with fail
 rw[← ae HW0]
 refine (ae MU).mono ?_
 rintro e w1 ⟨rfl,h1,h2⟩
 have FIN:=af (And.intro ((ae HBW).trans h1 (by simp)) h2)
 clear h1 h2 MU
 go_wp2
 go_ret
 exact⟨w.heap.size,rfl,(ae FIN).1,(ae FIN).2,Nat.le_refl _⟩
theorem zqw (zb xb yb:Nat) (y:Int) (ny:Nat) (w:World) (hz0:Slot w zb 0) (hz2:Slot w zb 2) (hx:qz w xb) (hy:zw w yb y (ny:Int)) (hny:0<ny) (hyl:(wd 4294967296 y.natAbs).length<8388608) (hnyl:(wd 4294967296 ny).length<8388608) (P Q:Int) (hP:0*(ny:Int)=P) (hQ:1*y=Q) (hPl:(wd 4294967296 P.natAbs).length<8388608) (hQl:(wd 4294967296 Q.natAbs).length<8388608) (hQ0:Q≠0) (N D:Int) (eN0:Hid (N=zer (if Q<0 then -P else P) Q.natAbs)) (eD0:Hid (D=zes P Q.natAbs)) :
  Calls prog 125 #[.pointer (some ⟨zb,0,none⟩),.pointer (some ⟨xb,0,none⟩),.pointer (some ⟨yb,0,none⟩)] w fun e w'=>e=.returned (.pointer (some ⟨zb,0,none⟩))∧But [zb] w w'∧zw w' zb N D:=by
 have lx:=hx.lt
 have ly:=hy.lt
 have lz:=hz0.lt
 have zl:(wd 4294967296 (0:Int).natAbs).length<8388608:=Nat.lt_of_le_of_lt (jf _ (by decide)) (by omega)
 have ol:(wd 4294967296 (1:Int).natAbs).length<8388608:=Nat.lt_of_le_of_lt (jf _ (by decide)) (by omega)
 go_enter func125,ntmps125
 go_wp2
 go_region_with (first
  | (go_at_call_of 108 (Value.pointer (some ⟨yb,0,none⟩));refine (ku yb y ny _ ?_ hny).mono ?_;(refine hy.but ?_;repeat (first | assumption | exact But.refl _ _ | apply But.drew | apply But.alloc));rintro e w' ⟨rfl,rfl⟩)
  | (go_at_call_of 108 (Value.pointer (some ⟨xb,0,none⟩));refine (zbi xb _ ?_).mono ?_;(refine hx.but ?_;repeat (first | assumption | exact But.refl _ _ | apply But.drew | apply But.alloc));rintro e We ⟨qd,rfl,hqd,KBd,KId⟩)
  | (go_at_call_of 110 (Value.pointer (some ⟨yb,2,none⟩));refine (ji _ xb 0 yb 2 0 (ny:Int) P hP w _ ?_ ?_ ?_ hx.1 hy.low zl (by rw[Int.natAbs_natCast];exact hnyl) hPl).mono ?_;(first | exact zqh _ _ | exact zdo _ _ _ | exact zdn _ _ _);(repeat (first | assumption | exact But.refl _ _ | apply But.drew | apply But.alloc));omega;rintro e W1 ⟨rfl,KB1,KA1,KS1,KI1,KL1⟩)
  | (go_at_call_of 110 (Value.pointer (some ⟨qd,0,none⟩));refine (uy _ qd 0 yb 0 1 y Q hQ w _ ?_ ?_ ?_ ?_ ?_ ?_ ?_ ol hyl hQl).mono ?_;(first | exact jy _ _ | exact (jy _ _).but KBd (by simp) | exact (KS1 _ (by omega) (zdo _ _ _)).but KBd (by simp) | exact (KS1 _ (by omega) (zdn _ _ _)).but KBd (by simp));(first | exact KB1.trans' KBd | exact (KB1.alloc _).trans' KBd | exact (KB1.trans' KBd).alloc _);(first | omega | (have:=KB1.size;omega) | (have:=KB1.size;have:=KBd.size;omega) | (have:=KB1.size;have:=KBd.size;simp at this;omega));(first | exact KId | exact KId.but ((But.refl _ _).alloc _));(refine hy.up.but ?_;(first | exact KB1.trans' KBd | exact (KB1.alloc _).trans' KBd | exact (KB1.trans' KBd).alloc _));(first | (have:=KId.lt;omega) | (have:=(KS1 _ (by omega) (zdo _ _ _)).lt;omega) | (have:=(KS1 _ (by omega) (zdn _ _ _)).lt;omega) | (have h0:=hqd;simp at h0;omega));(first | omega | (have:=KB1.size;omega) | (have:=KB1.size;have:=KBd.size;omega) | (have:=KB1.size;have:=KBd.size;simp at this;omega));rintro e W2 ⟨rfl,KB2,KA2,KS2,KI2,KL2⟩)
  | (go_at_call 43;refine (yg zb _ 0 _ 0 P Q _ (hz0.but KB2 (by simp)) (hz2.but KB2 (by simp)) (KI2 _ _ _ ?_ ?_) KA2 hPl hQl hQ0 N D eN0 eD0).mono ?_;(first | omega | (have:=KA1.lt;omega) | (have:=KA1.lt;have:=KBd.size;omega) | (have:=KA1.lt;have:=KBd.size;simp at this;omega));(refine KA1.but ?_;(first | exact KBd | exact ((But.refl _ _).alloc _).trans' KBd | exact KBd.alloc _));rintro e W3 ⟨rfl,KB3,KR3⟩))
 all_goals go_wp2
 all_goals go_ret
 all_goals exact⟨rfl,(KB2.of_nil (l:=[zb])).trans KB3 (by simp),KR3⟩
theorem zii (xb yb:Nat) (g:Rat) (w:World) (hx:qz w xb) (hy:za w yb g) (lg:zu g 2000000) (hg0:g.num≠0) :
  Calls prog 59 #[.pointer (some ⟨xb,0,none⟩),.pointer (some ⟨yb,0,none⟩)] w fun e w'=>∃ zb,e=.returned (.pointer (some ⟨zb,0,none⟩))∧But [] w w'∧za w' zb 0∧w.heap.size≤zb:=by
 have hgd:0<g.den:=Nat.pos_of_ne_zero g.den_nz
 have hQ0:(1:Int)*g.num≠0:=by rw[Int.one_mul];exact hg0
 obtain⟨e1,e2⟩:=zcr (0*(g.den:Int)) ((1:Int)*g.num) hQ0 0 (by show (0:Int)*_=_;rw[Int.zero_mul,Int.zero_mul,Int.zero_mul])
 obtain⟨W0,hW0⟩:∃ W0,W0=w.alloc (.cells #[.bool false,.slice none 0 0,.bool false,.slice none 0 0] 103):=⟨_,rfl⟩
 have hs:=zaq w 103
 have hbw:But [] w W0:=by rw[hW0];exact (But.refl _ _).alloc _
 rw[← hW0] at hs
 obtain⟨lg1,lg2⟩:=lg
 have QU:=af (zqw w.heap.size xb yb g.num g.den W0 hs.1 hs.2 (hx.but hbw) (zw.but hy hbw) hgd (by omega) (by omega) _ _ rfl rfl (by rw[Int.zero_mul];exact Nat.lt_of_le_of_lt (jf _ (by decide)) (by omega)) (by rw[Int.one_mul];omega) hQ0 (0:Rat).num ((0:Rat).den:Int) e1 e2)
 obtain⟨s,hss⟩:∃ s,s=g.num.sign:=⟨_,rfl⟩
 have hs0:(s==0)=false:=beq_eq_false_iff_ne.2 (by rw[hss];exact fun h=>hg0 (Int.sign_eq_zero_iff_zero.1 h))
 have SG:=af (zdf yb g.num (g.den:Int) w hy s hss (by omega))
 have HW0:=af hW0
 have HBW:=af hbw
 clear hW0 hbw hs e1 e2 hQ0 lg1 lg2 hx hy hgd hss hg0
 go_enter func59,ntmps59
 go_wp2_with fail
 refine (ae SG).mono ?_
 rintro e w1 ⟨rfl,hw⟩
 obtain rfl:=hw.symm
 clear hw
 go_wp2_with fail
 rw[← ae HW0]
 refine (ae QU).mono ?_
 rintro e w1 ⟨rfl,h1,h2⟩
 have FIN:=af (And.intro ((ae HBW).trans h1 (by simp)) h2)
 clear h1 h2 QU
 go_wp2
 go_ret
 exact⟨w.heap.size,rfl,(ae FIN).1,(ae FIN).2,Nat.le_refl _⟩
end Go.Proofs.YtffghofheeleeaaGreatDoor
