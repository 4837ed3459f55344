/- Differences of ratios, as the Go text of -/
import Derived.Test.YtffghofheeleeaaGreatDoorKHD
namespace Go.Proofs.YtffghofheeleeaaGreatDoor
open Go.Proofs.Tryz
open Go.RowKit
set_option maxHeartbeats 8000000
set_option maxRecDepth 100000
def qka:Oper:=⟨some 8,.alloc 101,96, "rat.go:124",#[],none⟩
def qjz:Oper:=⟨some 9,.alloc 101,96, "rat.go:124",#[],none⟩
def qjy:Oper:=⟨some 10,.move (.tmp 1),37, "rat.go:124",#[],none⟩
def qjx:Oper:=⟨some 11,.nilCheck (.tmp 10),0, "rat.go:124",#[⟨2,.data⟩],none⟩
def qjw:Oper:=⟨some 12,.fieldAddr 103 (.tmp 11) 0,0, "rat.go:124",#[⟨3,.data⟩],none⟩
def qjv:Oper:=⟨some 13,.move (.tmp 2),37, "rat.go:124",#[],none⟩
def qju:Oper:=⟨some 14,.call { callee:=.value (.func 108),args:=#[.tmp 13],argTypes:=#[37] },96, "rat.go:124",#[⟨5,.data⟩],none⟩
def qjt:Oper:=⟨some 15,.call { callee:=.value (.func 110),args:=#[.tmp 9,.tmp 12,.tmp 14],argTypes:=#[96,96,96] },96, "rat.go:124",#[⟨1,.data⟩,⟨4,.data⟩,⟨6,.data⟩,⟨6,.chain⟩],none⟩
def qjs:Oper:=⟨some 16,.alloc 101,96, "rat.go:124",#[],none⟩
def qjr:Oper:=⟨some 17,.move (.tmp 2),37, "rat.go:124",#[],none⟩
def qcp:Oper:=⟨some 18,.nilCheck (.tmp 17),0, "rat.go:124",#[⟨9,.data⟩],none⟩
def qco:Oper:=⟨some 19,.fieldAddr 103 (.tmp 18) 0,0, "rat.go:124",#[⟨10,.data⟩],none⟩
def qcn:Oper:=⟨some 20,.move (.tmp 1),37, "rat.go:124",#[],none⟩
def qcm:Oper:=⟨some 21,.call { callee:=.value (.func 108),args:=#[.tmp 20],argTypes:=#[37] },96, "rat.go:124",#[⟨12,.data⟩,⟨7,.chain⟩],none⟩
def qcl:Oper:=⟨some 22,.call { callee:=.value (.func 110),args:=#[.tmp 16,.tmp 19,.tmp 21],argTypes:=#[96,96,96] },96, "rat.go:124",#[⟨8,.data⟩,⟨11,.data⟩,⟨13,.data⟩,⟨13,.chain⟩],none⟩
def qck:Oper:=⟨some 23,.call { callee:=.value (.func 147),args:=#[.tmp 8,.tmp 15,.tmp 22],argTypes:=#[96,96,96] },96, "rat.go:124",#[⟨0,.data⟩,⟨7,.data⟩,⟨14,.data⟩,⟨14,.chain⟩],none⟩
def qcj:Oper:=⟨some 7,.assign (.tmp 23),96, "rat.go:124",#[⟨15,.data⟩,⟨15,.chain⟩,⟨0,.phase⟩,⟨1,.phase⟩,⟨2,.phase⟩,⟨3,.phase⟩,⟨4,.phase⟩,⟨5,.phase⟩,⟨6,.phase⟩,⟨7,.phase⟩,⟨8,.phase⟩,⟨9,.phase⟩,⟨10,.phase⟩,⟨11,.phase⟩,⟨12,.phase⟩,⟨13,.phase⟩,⟨14,.phase⟩,⟨15,.phase⟩],none⟩
def kw:Array Oper:=#[qka,qjz,qjy,qjx,qjw,qjv,qju,qjt,qjs,qjr,qcp,qco,qcn,qcm,qcl,qck,qcj]
def zhm (i:Nat):Nat:=match i with
 | 0=>8
 | 1=>9
 | 2=>10
 | 3=>11
 | 4=>12
 | 5=>13
 | 6=>14
 | 7=>15
 | 8=>16
 | 9=>17
 | 10=>18
 | 11=>19
 | 12=>20
 | 13=>21
 | 14=>22
 | 15=>23
 | _=>7
def qrk (xb yb:Nat) (N:Nat × Nat × Nat) (i:Nat):Value:=match i with
 | 0=>.pointer (some ⟨N.1,0,none⟩)
 | 1=>.pointer (some ⟨N.2.1,0,none⟩)
 | 2=>.pointer (some ⟨xb,0,none⟩)
 | 3=>.pointer (some ⟨xb,0,none⟩)
 | 4=>.pointer (some ⟨xb,0,none⟩)
 | 5=>.pointer (some ⟨yb,0,none⟩)
 | 6=>.pointer (some ⟨yb,2,none⟩)
 | 7=>.pointer (some ⟨N.2.1,0,none⟩)
 | 8=>.pointer (some ⟨N.2.2,0,none⟩)
 | 9=>.pointer (some ⟨yb,0,none⟩)
 | 10=>.pointer (some ⟨yb,0,none⟩)
 | 11=>.pointer (some ⟨yb,0,none⟩)
 | 12=>.pointer (some ⟨xb,0,none⟩)
 | 13=>.pointer (some ⟨xb,2,none⟩)
 | 14=>.pointer (some ⟨N.2.2,0,none⟩)
 | 15=>.pointer (some ⟨N.1,0,none⟩)
 | _=>.pointer (some ⟨N.1,0,none⟩)
theorem zuh:∀ i j,i<17→j<17→zhm i=zhm j→i=j:=fun i j hi hj=>(by decide:∀ i,i<17→∀ j,j<17→zhm i=zhm j→i=j) i hi j hj
theorem qci (id:Nat) (Q:Exit→Act→World→Prop) (base:Act) (W0:World) (xb yb:Nat) (x y P Z R:Int) (nx ny:Nat) (hs:23<base.tmps.size) (e1:base.eval (.tmp 1)=.pointer (some ⟨xb,0,none⟩)) (e2:base.eval (.tmp 2)=.pointer (some ⟨yb,0,none⟩))
  (hx:zw W0 xb x (nx:Int)) (hy:zw W0 yb y (ny:Int)) (hnx:0<nx) (hny:0<ny) (hxl:(wd 4294967296 x.natAbs).length<8388608) (hyl:(wd 4294967296 y.natAbs).length<8388608) (hnxl:(wd 4294967296 nx).length<8388608) (hnyl:(wd 4294967296 ny).length<8388608) (hP:x*(ny:Int)=P) (hZ:y*(nx:Int)=Z) (hR:R=P-Z) (hPl:(wd 4294967296 P.natAbs).length<8388608) (hZl:(wd 4294967296 Z.natAbs).length<8388608) (hRl:(wd 4294967296 R.natAbs).length<8388608)
  (hQ:∀ w b0 b1 b8,But [] W0 w→W0.heap.size≤b0→zh w b0 0 R→Q .normal (bk base [(8,.pointer (some ⟨b0,0,none⟩)),(9,.pointer (some ⟨b1,0,none⟩)),(10,.pointer (some ⟨xb,0,none⟩)),(11,.pointer (some ⟨xb,0,none⟩)),(12,.pointer (some ⟨xb,0,none⟩)),(13,.pointer (some ⟨yb,0,none⟩)),(14,.pointer (some ⟨yb,2,none⟩)),(15,.pointer (some ⟨b1,0,none⟩)),(16,.pointer (some ⟨b8,0,none⟩)),(17,.pointer (some ⟨yb,0,none⟩)),(18,.pointer (some ⟨yb,0,none⟩)),(19,.pointer (some ⟨yb,0,none⟩)),(20,.pointer (some ⟨xb,0,none⟩)),(21,.pointer (some ⟨xb,2,none⟩)),(22,.pointer (some ⟨b8,0,none⟩)),(23,.pointer (some ⟨b0,0,none⟩)),(7,.pointer (some ⟨b0,0,none⟩))]) w) :
  (Code.region id kw true).wp prog Q base W0:=by
 have hdr:∀ {w},But [] W0.drew w→But [] W0 w:=fun h=>(But.refl _ _).drew.trans' h
 have hT:∀ i,i<17→zhm i<base.tmps.size:=fun i hi=>by
  have h:zhm i≤23:=by revert i;decide
  omega
 have lx:=hx.lt
 have ly:=hy.lt
 refine zbs (by kernel_rfl) (xu (by kernel_rfl)) (zaw (by kernel_rfl)) (α:=Nat × Nat × Nat) (fun N d w=>yc W0.drew P Z R N.1 N.2.1 N.2.2 (d 0) (d 1) (d 8) (d 7) (d 14) (d 15) (d 16) w) (qrk xb yb) zhm 17 (by kernel_rfl) zuh hT (0,0,0) ?_ ?_ ?_
 ·exact⟨But.refl _ _,by simp,by simp,by simp,by simp,by simp,by simp,by simp,by simp,by simp,by simp⟩
 ·rintro ⟨b0,b1,b8⟩ d i o a w K hi ho hdi hCl hH he hdep hk
  have hH':yc W0.drew P Z R b0 b1 b8 (d 0) (d 1) (d 8) (d 7) (d 14) (d 15) (d 16) w:=hH
  have hD:=zco (ps:=[(3,2),(4,3),(6,5),(7,1),(7,4),(7,6),(10,9),(11,10),(13,7),(13,12),(14,8),(14,11),(14,13),(15,0),(15,7),(15,14),(16,0),(16,1),(16,2),(16,3),(16,4),(16,5),(16,6),(16,7),(16,8),(16,9),(16,10),(16,11),(16,12),(16,13),(16,14),(16,15)]) (by kernel_rfl) ho (fun j=>d j=true∧a.eval (.tmp (zhm j))=qrk xb yb (b0,b1,b8) j) hdep
  have e1':=(he 1 (fun j hj e=>absurd e.symm (by revert j;decide))).trans e1
  have e2':=(he 2 (fun j hj e=>absurd e.symm (by revert j;decide))).trans e2
  have hB:=hdr hH'.but
  have hlw:=hB.size
  have:i=0∨i=1∨i=2∨i=3∨i=4∨i=5∨i=6∨i=7∨i=8∨i=9∨i=10∨i=11∨i=12∨i=13∨i=14∨i=15∨i=16:=by omega
  rcases this with rfl|rfl|rfl|rfl|rfl|rfl|rfl|rfl|rfl|rfl|rfl|rfl|rfl|rfl|rfl|rfl|rfl
  ·obtain rfl:=so (show kw[0]? =some qka from rfl) ho
   rw[hdi] at hH'
   refine zi (yt a w _ _ _ _) (hk (w.heap.size,b1,b8) _ _ rfl (fun j hj hdj=>?_) (hH'.zxo _))
   have:j=0∨j=1∨j=2∨j=3∨j=4∨j=5∨j=6∨j=7∨j=8∨j=9∨j=10∨j=11∨j=12∨j=13∨j=14∨j=15∨j=16:=by omega
   rcases this with rfl|rfl|rfl|rfl|rfl|rfl|rfl|rfl|rfl|rfl|rfl|rfl|rfl|rfl|rfl|rfl|rfl
   all_goals first
    | rfl
    | (rw[hdi] at hdj;simp at hdj)
    | (exfalso;first | (have:=(hH'.hr hdj).1;simp at this) | (have:=(hH'.hr (hH'.hz hdj)).1;simp at this))
  ·obtain rfl:=so (show kw[1]? =some qjz from rfl) ho
   rw[hdi] at hH'
   refine zi (yt a w _ _ _ _) (hk (b0,w.heap.size,b8) _ _ rfl (fun j hj hdj=>?_) (hH'.zxn _))
   have:j=0∨j=1∨j=2∨j=3∨j=4∨j=5∨j=6∨j=7∨j=8∨j=9∨j=10∨j=11∨j=12∨j=13∨j=14∨j=15∨j=16:=by omega
   rcases this with rfl|rfl|rfl|rfl|rfl|rfl|rfl|rfl|rfl|rfl|rfl|rfl|rfl|rfl|rfl|rfl|rfl
   all_goals first
    | rfl
    | (rw[hdi] at hdj;simp at hdj)
    | (exfalso;have:=(hH'.hp hdj).1;simp at this)
  ·obtain rfl:=so (show kw[2]? =some qjy from rfl) ho
   exact zi (kg a w _ _ _ _ _ _ e1') (hk (b0,b1,b8) _ _ rfl (fun _ _ _=>rfl) hH)
  ·obtain rfl:=so (show kw[3]? =some qjx from rfl) ho
   exact zi (zdd a w _ _ _ _ _ _ 0 (hD 2 (by simp)).2) (hk (b0,b1,b8) _ _ rfl (fun _ _ _=>rfl) hH)
  ·obtain rfl:=so (show kw[4]? =some qjw from rfl) ho
   exact zi (ug a w _ _ _ _ _ _ (hD 3 (by simp)).2 (by omega)) (hk (b0,b1,b8) _ _ rfl (fun _ _ _=>rfl) hH)
  ·obtain rfl:=so (show kw[5]? =some qjv from rfl) ho
   exact zi (kg a w _ _ _ _ _ _ e2') (hk (b0,b1,b8) _ _ rfl (fun _ _ _=>rfl) hH)
  ·obtain rfl:=so (show kw[6]? =some qju from rfl) ho
   refine jc (o8 a w _ _ _ _ _ _ (hD 5 (by simp)).2) (R:=fun w' v=>v=.pointer (some ⟨yb,2,none⟩)∧w'=w) ((ku yb y ny w (hy.but hB) hny).mono (fun e w' h=>⟨_,h.1,rfl,h.2⟩)) ?_
   rintro v w' ⟨rfl,rfl⟩
   exact hk (b0,b1,b8) _ _ rfl (fun _ _ _=>rfl) hH
  ·obtain rfl:=so (show kw[7]? =some qjt from rfl) ho
   have hs1:=hH'.s1 (hD 1 (by simp)).1
   rw[hdi] at hs1
   refine jc (lv a w _ _ _ _ _ _ _ _ _ _ (hD 1 (by simp)).2 (hD 4 (by simp)).2 (hD 6 (by simp)).2) (R:=fun w' v=>v=.pointer (some ⟨b1,0,none⟩)∧But [] W0.drew w'∧zh w' b1 0 P∧(∀ B,B≠b1→Slot w B 0→Slot w' B 0)∧(∀ b o z',b≠b1→zh w b o z'→zh w' b o z')∧w.heap.size≤w'.heap.size) ((ji b1 xb 0 yb 2 x (ny:Int) P hP W0.drew w (hs1.2.2 rfl) hH'.but hs1.1 hx.drew.up hy.drew.low hxl (by rw[Int.natAbs_natCast];exact hnyl) hPl).mono (fun e w' h=>⟨_,h.1,rfl,h.2⟩)) ?_
   rintro v w' ⟨rfl,k1,k2,k3,k4,k5⟩
   rw[hdi,(hD 1 (by simp)).1] at hH'
   refine hk (b0,b1,b8) _ _ rfl (fun _ _ _=>rfl) ?_
   show yc W0.drew P Z R b0 b1 b8 (d 0) (d 1) (d 8) true (d 14) (d 15) (d 16) w'
   rw[(hD 1 (by simp)).1]
   exact hH'.qra k1 k2 k3 k4 k5
  ·obtain rfl:=so (show kw[8]? =some qjs from rfl) ho
   rw[hdi] at hH'
   refine zi (yt a w _ _ _ _) (hk (b0,b1,w.heap.size) _ _ rfl (fun j hj hdj=>?_) (hH'.zxm _))
   have:j=0∨j=1∨j=2∨j=3∨j=4∨j=5∨j=6∨j=7∨j=8∨j=9∨j=10∨j=11∨j=12∨j=13∨j=14∨j=15∨j=16:=by omega
   rcases this with rfl|rfl|rfl|rfl|rfl|rfl|rfl|rfl|rfl|rfl|rfl|rfl|rfl|rfl|rfl|rfl|rfl
   all_goals first
    | rfl
    | (rw[hdi] at hdj;simp at hdj)
    | (exfalso;have:=(hH'.hq hdj).1;simp at this)
  ·obtain rfl:=so (show kw[9]? =some qjr from rfl) ho
   exact zi (kg a w _ _ _ _ _ _ e2') (hk (b0,b1,b8) _ _ rfl (fun _ _ _=>rfl) hH)
  ·obtain rfl:=so (show kw[10]? =some qcp from rfl) ho
   exact zi (zdd a w _ _ _ _ _ _ 0 (hD 9 (by simp)).2) (hk (b0,b1,b8) _ _ rfl (fun _ _ _=>rfl) hH)
  ·obtain rfl:=so (show kw[11]? =some qco from rfl) ho
   exact zi (ug a w _ _ _ _ _ _ (hD 10 (by simp)).2 (by omega)) (hk (b0,b1,b8) _ _ rfl (fun _ _ _=>rfl) hH)
  ·obtain rfl:=so (show kw[12]? =some qcn from rfl) ho
   exact zi (kg a w _ _ _ _ _ _ e1') (hk (b0,b1,b8) _ _ rfl (fun _ _ _=>rfl) hH)
  ·obtain rfl:=so (show kw[13]? =some qcm from rfl) ho
   refine jc (o8 a w _ _ _ _ _ _ (hD 12 (by simp)).2) (R:=fun w' v=>v=.pointer (some ⟨xb,2,none⟩)∧w'=w) ((ku xb x nx w (hx.but hB) hnx).mono (fun e w' h=>⟨_,h.1,rfl,h.2⟩)) ?_
   rintro v w' ⟨rfl,rfl⟩
   exact hk (b0,b1,b8) _ _ rfl (fun _ _ _=>rfl) hH
  ·obtain rfl:=so (show kw[14]? =some qcl from rfl) ho
   have hs1:=hH'.s8 (hD 8 (by simp)).1
   rw[hdi] at hs1
   refine jc (lv a w _ _ _ _ _ _ _ _ _ _ (hD 8 (by simp)).2 (hD 11 (by simp)).2 (hD 13 (by simp)).2) (R:=fun w' v=>v=.pointer (some ⟨b8,0,none⟩)∧But [] W0.drew w'∧zh w' b8 0 Z∧(∀ B,B≠b8→Slot w B 0→Slot w' B 0)∧(∀ b o z',b≠b8→zh w b o z'→zh w' b o z')∧w.heap.size≤w'.heap.size) ((ji b8 yb 0 xb 2 y (nx:Int) Z hZ W0.drew w (hs1.2.2 rfl) hH'.but hs1.1 hy.drew.up hx.drew.low hyl (by rw[Int.natAbs_natCast];exact hnxl) hZl).mono (fun e w' h=>⟨_,h.1,rfl,h.2⟩)) ?_
   rintro v w' ⟨rfl,k1,k2,k3,k4,k5⟩
   rw[hdi,(hD 8 (by simp)).1] at hH'
   refine hk (b0,b1,b8) _ _ rfl (fun _ _ _=>rfl) ?_
   show yc W0.drew P Z R b0 b1 b8 (d 0) (d 1) (d 8) (d 7) true (d 15) (d 16) w'
   rw[(hD 8 (by simp)).1]
   exact hH'.qqz k1 k2 k3 k4 k5
  ·obtain rfl:=so (show kw[15]? =some qck from rfl) ho
   have d0:=(hD 0 (by simp)).1
   have hs1:=hH'.s0 d0
   rw[hdi] at hs1
   have hp7:=hH'.hp (hD 7 (by simp)).1
   have hq14:=hH'.hq (hD 14 (by simp)).1
   refine jc (zky a w _ _ _ _ _ _ _ _ _ _ (hD 0 (by simp)).2 (hD 7 (by simp)).2 (hD 14 (by simp)).2) (R:=fun w' v=>v=.pointer (some ⟨b0,0,none⟩)∧But [] W0.drew w'∧zh w' b0 0 R∧(∀ B,B≠b0→Slot w B 0→Slot w' B 0)∧(∀ b o z',b≠b0→zh w b o z'→zh w' b o z')∧w.heap.size≤w'.heap.size) ((zor b0 0 b1 0 b8 0 P Z R w (hs1.2.2 rfl) (hH'.n01 d0 hp7.1) (hH'.n08 d0 hq14.1) hp7.2 hq14.2 hPl hZl (by omega) hR).mono (fun e w' h=>by
    obtain⟨h1,w1,v,h2,h3,rfl⟩:=h
    exact⟨_,h1,rfl,zhd (hs1.2.2 rfl) hH'.but hs1.1 h2 h3⟩)) ?_
   rintro v w' ⟨rfl,k1,k2,k3,k4,k5⟩
   rw[hdi,d0] at hH'
   refine hk (b0,b1,b8) _ _ rfl (fun _ _ _=>rfl) ?_
   show yc W0.drew P Z R b0 b1 b8 (d 0) (d 1) (d 8) (d 7) (d 14) true (d 16) w'
   rw[d0]
   exact hH'.qpo k1 k2 k3 k4 k5
  ·obtain rfl:=so (show kw[16]? =some qcj from rfl) ho
   have d15:=(hD 15 (by simp)).1
   rw[d15] at hH'
   refine zi (zla a w _ _ _ _ _ _ (hD 15 (by simp)).2) (hk (b0,b1,b8) _ _ rfl (fun _ _ _=>rfl) ?_)
   show yc W0.drew P Z R b0 b1 b8 (d 0) (d 1) (d 8) (d 7) (d 14) (d 15) true w
   rw[d15]
   exact hH'.done
 ·rintro ⟨b0,b1,b8⟩ d w hd hH
  have hH':yc W0.drew P Z R b0 b1 b8 (d 0) (d 1) (d 8) (d 7) (d 14) (d 15) (d 16) w:=hH
  exact hQ w b0 b1 b8 (hdr hH'.but) (hH'.s0 (hd 0 (by omega))).1 (hH'.hr (hd 15 (by omega))).2
theorem zyx (zb xb yb:Nat) (x y:Int) (nx ny:Nat) (w:World) (hz0:Slot w zb 0) (hz2:Slot w zb 2) (hx:zw w xb x (nx:Int)) (hy:zw w yb y (ny:Int)) (hnx:0<nx) (hny:0<ny) (hxl:(wd 4294967296 x.natAbs).length<8388608) (hyl:(wd 4294967296 y.natAbs).length<8388608) (hnxl:(wd 4294967296 nx).length<8388608) (hnyl:(wd 4294967296 ny).length<8388608) (P Z R D:Int) (hP:x*(ny:Int)=P) (hZ:y*(nx:Int)=Z) (hR:R=P-Z) (hD:(nx:Int)*(ny:Int)=D) (hPl:(wd 4294967296 P.natAbs).length<8388608) (hZl:(wd 4294967296 Z.natAbs).length<8388608) (hRl:(wd 4294967296 R.natAbs).length<8388608) (hDl:(wd 4294967296 D.natAbs).length<8388608) (hD0:D≠0) (A B:Int) (eA:Hid (A=zer (if D<0 then -R else R) D.natAbs)) (eB:Hid (B=zes R D.natAbs)) :
  Calls prog 107 #[.pointer (some ⟨zb,0,none⟩),.pointer (some ⟨xb,0,none⟩),.pointer (some ⟨yb,0,none⟩)] w fun e w'=>e=.returned (.pointer (some ⟨zb,0,none⟩))∧But [zb] w w'∧zw w' zb A B:=by
 have HX:=af hx
 have HY:=af hy
 have HZ0:=af hz0
 have HZ2:=af hz2
 have REG:=af (fun (Q:Exit→Act→World→Prop) (base:Act) (hs:23<base.tmps.size) (e1:base.eval (.tmp 1)=.pointer (some ⟨xb,0,none⟩)) (e2:base.eval (.tmp 2)=.pointer (some ⟨yb,0,none⟩))=>qci 1 Q base w xb yb x y P Z R nx ny hs e1 e2 hx hy hnx hny hxl hyl hnxl hnyl hP hZ hR hPl hZl hRl)
 have DX:=af (fun W (h:zw W xb x (nx:Int))=>ku xb x nx W h hnx)
 have DY:=af (fun W (h:zw W yb y (ny:Int))=>ku yb y ny W h hny)
 have MU:=af (fun (A:Nat) (w P:World) (hs:Slot P A 0) (hw:But [] w P) (hA:w.heap.size≤A) (hx:zw w xb x (nx:Int)) (hy:zw w yb y (ny:Int))=>ji A xb 2 yb 2 (nx:Int) (ny:Int) D hD w P hs hw hA hx.low hy.low (by rw[Int.natAbs_natCast];exact hnxl) (by rw[Int.natAbs_natCast];exact hnyl) hDl)
 have SF:=af (fun (b0 b1:Nat) (W:World) (h0:Slot W zb 0) (h2:Slot W zb 2) (ha:zh W b0 0 R) (hb:zh W b1 0 D)=>yg zb b0 0 b1 0 R D W h0 h2 ha hb hRl hDl hD0 A B eA eB)
 clear hx hy hz0 hz2 hnx hny hxl hyl hnxl hnyl hP hZ hR hD hPl hZl hRl hDl hD0 eA eB
 go_enter func107,ntmps107
 go_wp2_with fail
 refine ae REG _ _ (by simp) (by simp[Act.eval]) (by simp[Act.eval]) ?_
 intro w1 b0 b1 b8 hb1 hb0 hI
 simp only[bk,List.foldl_cons,List.foldl_nil,Act.put,List.setIfInBounds_toArray,List.set_cons_zero,List.set_cons_succ]
 obtain⟨W0,hW0⟩:∃ W0,W0=w1.alloc (.cells #[.bool false,.slice none 0 0] 101):=⟨_,rfl⟩
 have hs:=jy w1 101
 rw[← hW0] at hs
 have hbw:But [] w1 W0:=by rw[hW0];exact (But.refl _ _).alloc _
 have hb2:=hb1.trans' hbw
 have K0:=af (And.intro hs (And.intro hbw (And.intro hb1 (And.intro hb0 hI))))
 have KX:=af ((ae HX).but hb2)
 have KY:=af ((ae HY).but hb2)
 have HW0:=af hW0
 clear hW0 hs hbw hb1 hb0 hb2 hI
 obtain⟨g,hg⟩:∃ g,g=w1.heap.size:=⟨_,rfl⟩
 go_wp2_with fail
 rw[← ae HW0,← hg]
 rw[← hg] at K0
 have HG:=af hg
 clear hg
 refine (ae DX _ (ae KX)).mono ?_
 rintro e w2 ⟨rfl,hw⟩
 obtain rfl:=hw.symm
 clear hw
 go_wp2_with fail
 refine (ae DY _ (ae KY)).mono ?_
 rintro e w2 ⟨rfl,hw⟩
 obtain rfl:=hw.symm
 clear hw
 go_wp2_with fail
 refine (ae MU g w1 W0 (ae K0).1 (ae K0).2.1 (Nat.le_of_eq (ae HG).symm) ((ae HX).but (ae K0).2.2.1) ((ae HY).but (ae K0).2.2.1)).mono ?_
 rintro e w2 ⟨rfl,k1,k2,k3,k4,k5⟩
 have S0:=af (And.intro (ae HZ0) (ae HZ2))
 have FIN:Hid (Slot w2 zb 0∧Slot w2 zb 2∧zh w2 b0 0 R∧zh w2 g 0 D∧But [] w w2):=by
  obtain⟨hs,hbw,hb1,hb0,hI⟩:=ae K0
  have hb3:=hb1.trans' k1
  exact⟨(ae HZ0).but hb3 (by simp),(ae HZ2).but hb3 (by simp),hI.but k1,k2,hb3⟩
 clear k1 k2 k3 k4 k5 S0 K0 KX KY HW0 HG MU DX DY REG HX HY HZ0 HZ2
 go_wp2_with fail
 refine (ae SF b0 g _ (ae FIN).1 (ae FIN).2.1 (ae FIN).2.2.1 (ae FIN).2.2.2.1).mono ?_
 rintro e w3 ⟨rfl,k1,k2⟩
 have F3:=af (And.intro ((ae FIN).2.2.2.2.of_nil.trans k1 (fun x hx=>.inl hx)) k2)
 clear k1 k2 FIN SF
 go_wp2
 go_ret
 exact⟨rfl,(ae F3).1,(ae F3).2⟩
theorem znm {a b:Nat} (h:a≤b):(wd 4294967296 a).length≤(wd 4294967296 b).length:=aj (by omega) _ _ (Nat.lt_of_le_of_lt h (am (by omega) b _ (Nat.le_refl _)))
theorem qnq (a b n:Nat) (ha:(wd 4294967296 a).length≤n) (hb:(wd 4294967296 b).length≤n):(wd 4294967296 (a+b)).length≤n+1:=by
 refine aj (by omega) _ _ ?_
 have h1:=am (B:=4294967296) (by omega) a n ha
 have h2:=am (B:=4294967296) (by omega) b n hb
 rw[Nat.pow_succ]
 omega
theorem zeb (x y:Int) (n:Nat) (hx:(wd 4294967296 x.natAbs).length≤n) (hy:(wd 4294967296 y.natAbs).length≤n):(wd 4294967296 (x+y).natAbs).length≤n+1 :=
 Nat.le_trans (znm (Int.natAbs_add_le x y)) (qnq _ _ n hx hy)
theorem zhc (x y:Int) (n:Nat) (hx:(wd 4294967296 x.natAbs).length≤n) (hy:(wd 4294967296 y.natAbs).length≤n):(wd 4294967296 (x-y).natAbs).length≤n+1:=by
 rw[Int.sub_eq_add_neg]
 exact zeb x (-y) n hx (by rw[Int.natAbs_neg];exact hy)
theorem zpp (f:Rat) (p q:Int) (n:Nat) (hq:q≠0) (h:f.num*q=p*(f.den:Int)) (hp:(wd 4294967296 p.natAbs).length≤n) (hl:(wd 4294967296 q.natAbs).length≤n):zu f n:=by
 obtain⟨e1,e2⟩:=zcr p q hq f h
 constructor
 ·have h1:f.num.natAbs=p.natAbs/Nat.gcd p.natAbs q.natAbs:=by
   rw[e1,zyw]
   split <;> simp
  rw[h1]
  exact Nat.le_trans (znm (Nat.div_le_self _ _)) hp
 ·have h2:f.den=q.natAbs/Nat.gcd p.natAbs q.natAbs:=by
   have:=e2
   rw[zes] at this
   omega
  rw[h2]
  exact Nat.le_trans (znm (Nat.div_le_self _ _)) hl
theorem zu.mono {f:Rat} {m n:Nat} (h:zu f m) (hmn:m≤n):zu f n:=⟨Nat.le_trans h.1 hmn,Nat.le_trans h.2 hmn⟩
theorem zkl (f g:Rat):(f+g).num*((f.den:Int)*(g.den:Int))=(f.num*(g.den:Int)+g.num*(f.den:Int))*((f+g).den:Int):=by
 have h:=znr f g
 grind
theorem zkk (f g:Rat):(f-g).num*((f.den:Int)*(g.den:Int))=(f.num*(g.den:Int)-g.num*(f.den:Int))*((f-g).den:Int):=by
 have h:=znr f (-g)
 rw[← Rat.sub_eq_add_neg] at h
 simp only[Rat.neg_num,Rat.neg_den] at h
 grind
theorem qy (x y:Int) (m n:Nat) (hx:(wd 4294967296 x.natAbs).length≤m) (hy:(wd 4294967296 y.natAbs).length≤n):(wd 4294967296 (x*y).natAbs).length≤m+n:=by
 rw[Int.natAbs_mul]
 have:=ziv x.natAbs y.natAbs
 omega
theorem zu.mul {f g:Rat} {m n:Nat} (hf:zu f m) (hg:zu g n):zu (f*g) (m+n):=by
 have hfd:0<f.den:=Nat.pos_of_ne_zero f.den_nz
 have hgd:0<g.den:=Nat.pos_of_ne_zero g.den_nz
 have hc:=zek f g
 rw[Int.natCast_mul] at hc
 exact zpp _ _ _ _ (Int.mul_ne_zero (by omega) (by omega)) hc (qy _ _ _ _ hf.1 hg.1) (qy _ _ _ _ (by rw[Int.natAbs_natCast];exact hf.2) (by rw[Int.natAbs_natCast];exact hg.2))
theorem zu.sub {f g:Rat} {m n:Nat} (hf:zu f m) (hg:zu g n):zu (f-g) (m+n+1):=by
 have hfd:0<f.den:=Nat.pos_of_ne_zero f.den_nz
 have hgd:0<g.den:=Nat.pos_of_ne_zero g.den_nz
 have d1:(wd 4294967296 ((f.den:Nat):Int).natAbs).length≤m:=by rw[Int.natAbs_natCast];exact hf.2
 have d2:(wd 4294967296 ((g.den:Nat):Int).natAbs).length≤n:=by rw[Int.natAbs_natCast];exact hg.2
 refine zpp _ _ _ _ (Int.mul_ne_zero (by omega) (by omega)) (zkk f g) (zhc _ _ _ (qy _ _ _ _ hf.1 d2) ?_) (Nat.le_succ_of_le (qy _ _ _ _ d1 d2))
 rw[Nat.add_comm m n]
 exact qy _ _ _ _ hg.1 d1
theorem zu.add {f g:Rat} {m n:Nat} (hf:zu f m) (hg:zu g n):zu (f+g) (m+n+1):=by
 have hfd:0<f.den:=Nat.pos_of_ne_zero f.den_nz
 have hgd:0<g.den:=Nat.pos_of_ne_zero g.den_nz
 have d1:(wd 4294967296 ((f.den:Nat):Int).natAbs).length≤m:=by rw[Int.natAbs_natCast];exact hf.2
 have d2:(wd 4294967296 ((g.den:Nat):Int).natAbs).length≤n:=by rw[Int.natAbs_natCast];exact hg.2
 refine zpp _ _ _ _ (Int.mul_ne_zero (by omega) (by omega)) (zkl f g) (zeb _ _ _ (qy _ _ _ _ hf.1 d2) ?_) (Nat.le_succ_of_le (qy _ _ _ _ d1 d2))
 rw[Nat.add_comm m n]
 exact qy _ _ _ _ hg.1 d1
theorem zqs (xb yb:Nat) (f g:Rat) (w:World) (hx:za w xb f) (hy:za w yb g) (lf:zu f 2000000) (lg:zu g 2000000) :
  Calls prog 51 #[.pointer (some ⟨xb,0,none⟩),.pointer (some ⟨yb,0,none⟩)] w fun e w'=>∃ zb,e=.returned (.pointer (some ⟨zb,0,none⟩))∧But [] w w'∧za w' zb (f+g)∧w.heap.size≤zb:=by
 have hfd:0<f.den:=Nat.pos_of_ne_zero f.den_nz
 have hgd:0<g.den:=Nat.pos_of_ne_zero g.den_nz
 have hQ0:(f.den:Int)*(g.den:Int)≠0:=Int.mul_ne_zero (by omega) (by omega)
 obtain⟨e1,e2⟩:=zcr (f.num*(g.den:Int)+g.num*(f.den:Int)) ((f.den:Int)*(g.den:Int)) hQ0 (f+g) (zkl f g)
 obtain⟨W0,hW0⟩:∃ W0,W0=w.alloc (.cells #[.bool false,.slice none 0 0,.bool false,.slice none 0 0] 103):=⟨_,rfl⟩
 have hs:=zaq w 103
 have hbw:But [] w W0:=by rw[hW0];exact (But.refl _ _).alloc _
 rw[← hW0] at hs
 obtain⟨lf1,lf2⟩:=lf
 obtain⟨lg1,lg2⟩:=lg
 have d1:(wd 4294967296 ((f.den:Nat):Int).natAbs).length≤2000000:=by rw[Int.natAbs_natCast];exact lf2
 have d2:(wd 4294967296 ((g.den:Nat):Int).natAbs).length≤2000000:=by rw[Int.natAbs_natCast];exact lg2
 have p1:=qy f.num (g.den:Int) _ _ lf1 d2
 have p2:=qy g.num (f.den:Int) _ _ lg1 d1
 have p3:=qy (f.den:Int) (g.den:Int) _ _ d1 d2
 have p4:=zeb _ _ _ p1 p2
 have MU:=af (zza w.heap.size xb yb f.num g.num f.den g.den W0 hs.1 hs.2 (zw.but hx hbw) (zw.but hy hbw) hfd hgd (by omega) (by omega) (by omega) (by omega) _ _ _ _ rfl rfl rfl rfl (by omega) (by omega) (by omega) (by omega) hQ0 (f+g).num ((f+g).den:Int) e1 e2)
 have HW0:=af hW0
 have HBW:=af hbw
 clear hW0 hbw hs e1 e2 hQ0 p1 p2 p3 p4 d1 d2 lf1 lf2 lg1 lg2 hx hy hfd hgd
 go_enter func51,ntmps51
 go_wp2_with fail
 rw[← ae HW0]
 refine (ae MU).mono ?_
 rintro e w1 ⟨rfl,h1,h2⟩
 have FIN:=af (And.intro ((ae HBW).trans h1 (by simp)) h2)
 clear h1 h2 MU
 go_wp2
 go_ret
 exact⟨w.heap.size,rfl,(ae FIN).1,(ae FIN).2,Nat.le_refl _⟩
theorem zqp (xb yb:Nat) (f g:Rat) (w:World) (hx:za w xb f) (hy:za w yb g) (lf:zu f 2000000) (lg:zu g 2000000) :
  Calls prog 47 #[.pointer (some ⟨xb,0,none⟩),.pointer (some ⟨yb,0,none⟩)] w fun e w'=>∃ zb,e=.returned (.pointer (some ⟨zb,0,none⟩))∧But [] w w'∧za w' zb (f-g)∧w.heap.size≤zb:=by
 have hfd:0<f.den:=Nat.pos_of_ne_zero f.den_nz
 have hgd:0<g.den:=Nat.pos_of_ne_zero g.den_nz
 have hQ0:(f.den:Int)*(g.den:Int)≠0:=Int.mul_ne_zero (by omega) (by omega)
 obtain⟨e1,e2⟩:=zcr (f.num*(g.den:Int)-g.num*(f.den:Int)) ((f.den:Int)*(g.den:Int)) hQ0 (f-g) (zkk f g)
 obtain⟨W0,hW0⟩:∃ W0,W0=w.alloc (.cells #[.bool false,.slice none 0 0,.bool false,.slice none 0 0] 103):=⟨_,rfl⟩
 have hs:=zaq w 103
 have hbw:But [] w W0:=by rw[hW0];exact (But.refl _ _).alloc _
 rw[← hW0] at hs
 obtain⟨lf1,lf2⟩:=lf
 obtain⟨lg1,lg2⟩:=lg
 have d1:(wd 4294967296 ((f.den:Nat):Int).natAbs).length≤2000000:=by rw[Int.natAbs_natCast];exact lf2
 have d2:(wd 4294967296 ((g.den:Nat):Int).natAbs).length≤2000000:=by rw[Int.natAbs_natCast];exact lg2
 have p1:=qy f.num (g.den:Int) _ _ lf1 d2
 have p2:=qy g.num (f.den:Int) _ _ lg1 d1
 have p3:=qy (f.den:Int) (g.den:Int) _ _ d1 d2
 have p4:=zhc _ _ _ p1 p2
 have MU:=af (zyx w.heap.size xb yb f.num g.num f.den g.den W0 hs.1 hs.2 (zw.but hx hbw) (zw.but hy hbw) hfd hgd (by omega) (by omega) (by omega) (by omega) _ _ _ _ rfl rfl rfl rfl (by omega) (by omega) (by omega) (by omega) hQ0 (f-g).num ((f-g).den:Int) e1 e2)
 have HW0:=af hW0
 have HBW:=af hbw
 clear hW0 hbw hs e1 e2 hQ0 p1 p2 p3 p4 d1 d2 lf1 lf2 lg1 lg2 hx hy hfd hgd
 go_enter func47,ntmps47
 go_wp2_with fail
 rw[← ae HW0]
 refine (ae MU).mono ?_
 rintro e w1 ⟨rfl,h1,h2⟩
 have FIN:=af (And.intro ((ae HBW).trans h1 (by simp)) h2)
 clear h1 h2 MU
 go_wp2
 go_ret
 exact⟨w.heap.size,rfl,(ae FIN).1,(ae FIN).2,Nat.le_refl _⟩
end Go.Proofs.YtffghofheeleeaaGreatDoor
