/- Whether one law is nowhere beyond anothe -/
import Derived.Test.YtagmkkiagjmimaaGreatDoorXKXr
import Derived.Test.YtagmkkiagjmimaaGreatDoorXOC
namespace Go.Proofs.YtagmkkiagjmimaaGreatDoor
open Go.Proofs.Tryz
open Go.RowKit
set_option maxHeartbeats 64000000
set_option maxRecDepth 100000
set_option linter.unusedVariables false
theorem qdz (a:Act) (w:World) (d t0:Nat) (u:TypeId) (ps:String) (ed:Array Edge) (gd:Option (Nat × Bool)) (z0:Value) (h0:a.eval (.tmp t0)=z0) :
   (execOp a.eval { dst:=some d,op:=Op.call { callee:=Callee.value (Operand.func 79),args:=#[Operand.tmp t0],argTypes:=#[3] },type:=u,pos:=ps,after:=ed,guard:=gd }).run prog w=.ok (.enter 79 #[z0]) w:=by(
 unfold execOp
 go_simp
 rw[← h0]
 simp[Act.eval])
theorem qdy (a:Act) (w:World) (d t0 t1:Nat) (u:TypeId) (ps:String) (ed:Array Edge) (gd:Option (Nat × Bool)) (z0 z1:Value) (h0:a.eval (.tmp t0)=z0) (h1:a.eval (.tmp t1)=z1) :
   (execOp a.eval { dst:=some d,op:=Op.call { callee:=Callee.value (Operand.func 89),args:=#[Operand.tmp t0,Operand.tmp t1],argTypes:=#[27,27] },type:=u,pos:=ps,after:=ed,guard:=gd }).run prog w=.ok (.enter 89 #[z0,z1]) w:=by(
 unfold execOp
 go_simp
 rw[← h0,← h1]
 simp[Act.eval])
theorem qdx (a:Act) (w:World) (d t0 t1:Nat) (u:TypeId) (ps:String) (ed:Array Edge) (gd:Option (Nat × Bool)) (z0 z1:Value) (h0:a.eval (.tmp t0)=z0) (h1:a.eval (.tmp t1)=z1) :
   (execOp a.eval { dst:=some d,op:=Op.call { callee:=Callee.value (Operand.func 58),args:=#[Operand.tmp t0,Operand.tmp t1],argTypes:=#[27,27] },type:=u,pos:=ps,after:=ed,guard:=gd }).run prog w=.ok (.enter 58 #[z0,z1]) w:=by(
 unfold execOp
 go_simp
 rw[← h0,← h1]
 simp[Act.eval])
theorem qdw (a:Act) (w:World) (d t:Nat) (u:TypeId) (ps:String) (ed:Array Edge) (gd:Option (Nat × Bool)) (x:Int) (bb:Bool) (hb:bb=decide (x > 0)) (h1:a.eval (.tmp t)=.int .i64 x) :
   (execOp a.eval { dst:=some d,op:=Op.binOp BinOp.gtr 3 (.tmp t) (Operand.const (Value.int IntKind.i64 0)) 3,type:=u,pos:=ps,after:=ed,guard:=gd }).run prog w=.ok (.value (.bool bb)) w:=by(
 subst hb
 unfold execOp
 simp only[h1]
 go_simp
 try rfl)
def qfn:Oper:=⟨some 7,.load 27 (.tmp 5),27, "order.go:24",#[],none⟩
def qfm:Oper:=⟨some 8,.load 27 (.tmp 4),27, "order.go:24",#[],none⟩
def qfl:Oper:=⟨some 9,.move (.tmp 0),3, "order.go:24",#[],none⟩
def qfk:Oper:=⟨some 10,.call { callee:=.value (.func 79),args:=#[.tmp 9],argTypes:=#[3] },27, "order.go:24",#[⟨2,.data⟩],none⟩
def qfj:Oper:=⟨some 11,.call { callee:=.value (.func 89),args:=#[.tmp 8,.tmp 10],argTypes:=#[27,27] },27, "order.go:24",#[⟨1,.data⟩,⟨3,.data⟩,⟨3,.chain⟩],none⟩
def qfi:Oper:=⟨some 12,.call { callee:=.value (.func 58),args:=#[.tmp 7,.tmp 11],argTypes:=#[27,27] },3, "order.go:24",#[⟨0,.data⟩,⟨4,.data⟩,⟨4,.chain⟩],none⟩
def qfh:Oper:=⟨some 13,.binOp .gtr 3 (.tmp 12) (.const (.int .i64 0)) 3,4, "order.go:24",#[⟨5,.data⟩],none⟩
def qfg:Oper:=⟨some 6,.assign (.tmp 13),4, "order.go:24",#[⟨6,.data⟩,⟨5,.chain⟩,⟨0,.phase⟩,⟨1,.phase⟩,⟨2,.phase⟩,⟨3,.phase⟩,⟨4,.phase⟩,⟨5,.phase⟩,⟨6,.phase⟩],none⟩
def zfv:Array Oper:=#[qfn,qfm,qfl,qfk,qfj,qfi,qfh,qfg]
structure zhd (W0:World) (g4:Nat) (g5:Nat) (k:Nat) (r1:Rat) (r:Int) (bb:Bool) (s1:Bool) (x1:Int) (y1:Int) (p1:Option Addr) (s2:Bool) (x2:Int) (y2:Int) (p2:Option Addr) (s3:Bool) (x3:Int) (y3:Int) (p3:Option Addr) (za:FZ) (b4:Bool) (w:World):Prop where
 mem:But [] W0 w
 f4:b4=true→au w (.agg #[.bool za.1,.int .u64 za.2.1,.int .u64 za.2.2.1,.pointer za.2.2.2]) (r1)
theorem zhd.but {W0:World} {g4:Nat} {g5:Nat} {k:Nat} {r1:Rat} {r:Int} {bb:Bool} {s1:Bool} {x1:Int} {y1:Int} {p1:Option Addr} {s2:Bool} {x2:Int} {y2:Int} {p2:Option Addr} {s3:Bool} {x3:Int} {y3:Int} {p3:Option Addr} {za:FZ} {b4:Bool} {w w':World} (h:zhd W0 g4 g5 k r1 r bb s1 x1 y1 p1 s2 x2 y2 p2 s3 x3 y3 p3 za b4 w) (hb:But [] w w'):zhd W0 g4 g5 k r1 r bb s1 x1 y1 p1 s2 x2 y2 p2 s3 x3 y3 p3 za b4 w' :=
 { mem:=h.mem.trans' hb,f4:=fun e=>(h.f4 e).but hb }
theorem zhd.s4 {W0:World} {g4:Nat} {g5:Nat} {k:Nat} {r1:Rat} {r:Int} {bb:Bool} {s1:Bool} {x1:Int} {y1:Int} {p1:Option Addr} {s2:Bool} {x2:Int} {y2:Int} {p2:Option Addr} {s3:Bool} {x3:Int} {y3:Int} {p3:Option Addr} {za:FZ} {b4:Bool} {w:World} (h:zhd W0 g4 g5 k r1 r bb s1 x1 y1 p1 s2 x2 y2 p2 s3 x3 y3 p3 za b4 w) (za':FZ) (hf:au w (.agg #[.bool za'.1,.int .u64 za'.2.1,.int .u64 za'.2.2.1,.pointer za'.2.2.2]) (r1)):zhd W0 g4 g5 k r1 r bb s1 x1 y1 p1 s2 x2 y2 p2 s3 x3 y3 p3 za' true w :=
 { mem:=h.mem,f4:=fun _=>hf }
def zeq (i:Nat):Nat:=match i with
 | 0=>7
 | 1=>8
 | 2=>9
 | 3=>10
 | 4=>11
 | 5=>12
 | 6=>13
 | _=>6
def zlk (i:Nat):Bool:=match i with
 | _=>true
def zwq (g4:Nat) (g5:Nat) (k:Nat) (r1:Rat) (r:Int) (bb:Bool) (s1:Bool) (x1:Int) (y1:Int) (p1:Option Addr) (s2:Bool) (x2:Int) (y2:Int) (p2:Option Addr) (s3:Bool) (x3:Int) (y3:Int) (p3:Option Addr) (za:FZ) (i:Nat):Value:=match i with
 | 0=>.agg #[.bool s1,.int .u64 x1,.int .u64 y1,.pointer p1]
 | 1=>.agg #[.bool s2,.int .u64 x2,.int .u64 y2,.pointer p2]
 | 2=>.int .i64 (k:Int)
 | 3=>.agg #[.bool s3,.int .u64 x3,.int .u64 y3,.pointer p3]
 | 4=>.agg #[.bool za.1,.int .u64 za.2.1,.int .u64 za.2.2.1,.pointer za.2.2.2]
 | 5=>.int .i64 r
 | 6=>.bool bb
 | _=>.bool bb
theorem qbd:zcx zfv [(3,2),(4,1),(4,3),(5,0),(5,4),(6,5),(7,0),(7,1),(7,2),(7,3),(7,4),(7,5),(7,6)]=true:=by kernel_rfl
theorem zye:∀ i j,i<8→j<8→zlk i=true→zlk j=true→zeq i=zeq j→i=j:=fun i j hi hj=>(by decide:∀ i,i<8→∀ j,j<8→zlk i=true→zlk j=true→zeq i=zeq j→i=j) i hi j hj
theorem zlc (id:Nat) (Q:Exit→Act→World→Prop) (base:Act) (W0:World) (g4:Nat) (g5:Nat) (k:Nat) (r1:Rat) (r:Int) (bb:Bool) (s1:Bool) (x1:Int) (y1:Int) (p1:Option Addr) (s2:Bool) (x2:Int) (y2:Int) (p2:Option Addr) (s3:Bool) (x3:Int) (y3:Int) (p3:Option Addr) (hs:13<base.tmps.size) (e0:base.eval (.tmp 0)=.int .i64 (k:Int)) (e4:base.eval (.tmp 4)=.pointer (some ⟨g4,0,none⟩)) (e5:base.eval (.tmp 5)=.pointer (some ⟨g5,0,none⟩))
   (hbb:bb=decide (r > 0))  (c1:P4o W0 g5 (0) s1 x1 y1 p1) (c2:P4o W0 g4 (0) s2 x2 y2 p2) (WH:∀ w,Calls prog 79 #[.int .i64 (k:Int)] w fun e w'=>e=.returned (.agg #[.bool s3,.int .u64 x3,.int .u64 y3,.pointer p3])∧But [] w w') (MU:∀ w,But [] W0 w→Calls prog 89 #[.agg #[.bool s2,.int .u64 x2,.int .u64 y2,.pointer p2],.agg #[.bool s3,.int .u64 x3,.int .u64 y3,.pointer p3]] w fun e w'=>∃ z:FZ,e=.returned (.agg #[.bool z.1,.int .u64 z.2.1,.int .u64 z.2.2.1,.pointer z.2.2.2])∧au w' (.agg #[.bool z.1,.int .u64 z.2.1,.int .u64 z.2.2.1,.pointer z.2.2.2]) (r1)∧But [] w w') (CM:∀ w (y:FZ),But [] W0 w→au w (.agg #[.bool y.1,.int .u64 y.2.1,.int .u64 y.2.2.1,.pointer y.2.2.2]) r1→Calls prog 58 #[.agg #[.bool s1,.int .u64 x1,.int .u64 y1,.pointer p1],.agg #[.bool y.1,.int .u64 y.2.1,.int .u64 y.2.2.1,.pointer y.2.2.2]] w fun e w'=>e=.returned (.int .i64 r)∧But [] w w')
   (hQ:∀ (za:FZ) w1,zhd W0 g4 g5 k r1 r bb s1 x1 y1 p1 s2 x2 y2 p2 s3 x3 y3 p3 za true w1→Q .normal (bk base [(7,.agg #[.bool s1,.int .u64 x1,.int .u64 y1,.pointer p1]),(8,.agg #[.bool s2,.int .u64 x2,.int .u64 y2,.pointer p2]),(9,.int .i64 (k:Int)),(10,.agg #[.bool s3,.int .u64 x3,.int .u64 y3,.pointer p3]),(11,.agg #[.bool za.1,.int .u64 za.2.1,.int .u64 za.2.2.1,.pointer za.2.2.2]),(12,.int .i64 r),(13,.bool bb),(6,.bool bb)]) w1) :
   (Code.region id zfv true).wp prog Q base W0:=by(
 have hT:∀ i,i<8→zlk i=true→zeq i<base.tmps.size:=fun i hi _=>by
  have h:zeq i≤13:=by revert i;decide
  omega
 refine zul (by kernel_rfl) (zcu (by kernel_rfl)) (zhw (by kernel_rfl)) (fun (N:(FZ)) d w=>zhd W0 g4 g5 k r1 r bb s1 x1 y1 p1 s2 x2 y2 p2 s3 x3 y3 p3 N (d 4) w) (fun N=>zwq g4 g5 k r1 r bb s1 x1 y1 p1 s2 x2 y2 p2 s3 x3 y3 p3 N) zeq zlk 8 (by kernel_rfl) zye hT ((false,0,0,none)) { mem:=(But.refl _ _).drew,f4:=fun h=>by simp at h } ?_ ?_
 ·(
 intro N d i o a w K hi ho hdi hcl hH he hdep hK
 have hD:=zlv qbd ho (fun j=>d j=true∧(zlk j=true→a.eval (.tmp (zeq j))=zwq g4 g5 k r1 r bb s1 x1 y1 p1 s2 x2 y2 p2 s3 x3 y3 p3 N j)) hdep
 have e0':=(he 0 (fun j hj _ _=>(by decide:∀ j,j<8→(0:Nat)≠zeq j) j hj)).trans e0
 have e4':=(he 4 (fun j hj _ _=>(by decide:∀ j,j<8→(4:Nat)≠zeq j) j hj)).trans e4
 have e5':=(he 5 (fun j hj _ _=>(by decide:∀ j,j<8→(5:Nat)≠zeq j) j hj)).trans e5
 have:i=0∨i=1∨i=2∨i=3∨i=4∨i=5∨i=6∨i=7:=by omega
 rcases this with rfl|rfl|rfl|rfl|rfl|rfl|rfl|rfl
 ·obtain rfl:=so (show zfv[0]? =some qfn from rfl) ho
  have hP:=hH
  have hW:=hP.mem
  exact aq (ax a w _ _ _ _ _ _ g5 (0) _ _ _ _ e5' (c1.but hW (by simp))) (hK N _ _ (fun _=>rfl) (fun _ _ _ _=>rfl) hH)
 ·obtain rfl:=so (show zfv[1]? =some qfm from rfl) ho
  have hP:=hH
  have hW:=hP.mem
  exact aq (ax a w _ _ _ _ _ _ g4 (0) _ _ _ _ e4' (c2.but hW (by simp))) (hK N _ _ (fun _=>rfl) (fun _ _ _ _=>rfl) hH)
 ·obtain rfl:=so (show zfv[2]? =some qfl from rfl) ho
  exact aq (bz a w _ _ _ _ _ _ _ e0') (hK N _ _ (fun _=>rfl) (fun _ _ _ _=>rfl) hH)
 ·obtain rfl:=so (show zfv[3]? =some qfk from rfl) ho
  have hP:=hH
  have hW:=hP.mem
  exact az (qdz a w _ _ _ _ _ _ _ ((hD 2 (by simp)).2 rfl)) (R:=fun w' v=>v=zwq g4 g5 k r1 r bb s1 x1 y1 p1 s2 x2 y2 p2 s3 x3 y3 p3 N 3∧But [] w w') ((WH w).mono fun e w' ⟨he,hb⟩=>⟨_,he,rfl,hb⟩) (fun v w' hv=>hK N _ _ (fun _=>hv.1) (fun _ _ _ _=>rfl) (hP.but hv.2))
 ·(
 obtain rfl:=so (show zfv[4]? =some qfj from rfl) ho
 have hP:=hH
 have hW:=hP.mem
 exact az (qdy a w _ _ _ _ _ _ _ _ _ ((hD 1 (by simp)).2 rfl) ((hD 3 (by simp)).2 rfl)) (R:=fun w' u=>∃ v,u=.agg #[.bool v.1,.int .u64 v.2.1,.int .u64 v.2.2.1,.pointer v.2.2.2]∧(au w' (.agg #[.bool v.1,.int .u64 v.2.1,.int .u64 v.2.2.1,.pointer v.2.2.2]) (r1))∧But [] w w') ((MU w hW).mono fun e w' ⟨v,he,hf,hb⟩=>⟨_,he,v,rfl,hf,hb⟩) (fun u w' ⟨v,hu,hf,hb⟩=>hK (v) _ _ (fun _=>hu) (fun j hj _ hdj=>by
  have:j=0∨j=1∨j=2∨j=3∨j=4∨j=5∨j=6∨j=7:=by omega
  rcases this with rfl|rfl|rfl|rfl|rfl|rfl|rfl|rfl <;> first|rfl | exact absurd (hdi.symm.trans hdj) (by simp)) ((hP.but hb).s4 v hf)))
 ·(
 obtain rfl:=so (show zfv[5]? =some qfi from rfl) ho
 have hP:=hH
 have hW:=hP.mem
 have t4:d 4=true:=(hD 4 (by simp)).1
 exact az (qdx a w _ _ _ _ _ _ _ _ _ ((hD 0 (by simp)).2 rfl) ((hD 4 (by simp)).2 rfl)) (R:=fun w' v=>v=zwq g4 g5 k r1 r bb s1 x1 y1 p1 s2 x2 y2 p2 s3 x3 y3 p3 N 5∧But [] w w') ((CM w N hW (hP.f4 t4)).mono fun e w' ⟨he,hb⟩=>⟨_,he,rfl,hb⟩) (fun v w' hv=>hK N _ _ (fun _=>hv.1) (fun _ _ _ _=>rfl) (hP.but hv.2)))
 ·obtain rfl:=so (show zfv[6]? =some qfh from rfl) ho
  exact aq (qdw a w _ _ _ _ _ _ _ bb hbb ((hD 5 (by simp)).2 rfl)) (hK N _ _ (fun _=>rfl) (fun _ _ _ _=>rfl) hH)
 ·obtain rfl:=so (show zfv[7]? =some qfg from rfl) ho
  exact aq (qdv a w _ _ _ _ _ _ _ ((hD 6 (by simp)).2 rfl)) (hK N _ _ (fun _=>rfl) (fun _ _ _ _=>rfl) hH))
 ·intro N d w hd hH
  have hP:zhd W0 g4 g5 k r1 r bb s1 x1 y1 p1 s2 x2 y2 p2 s3 x3 y3 p3 N (d 4) w:=hH
  rw[hd 4 (by omega)] at hP
  exact hQ N w hP)
theorem zrh (k:Nat) (hk:k<1000) (s1:Bool) (x1 y1:Int) (p1:Option Addr) (s2:Bool) (x2 y2:Int) (p2:Option Addr) (c m:Rat) (w:World) (hc:au w (.agg #[.bool s1,.int .u64 x1,.int .u64 y1,.pointer p1]) c) (hm:au w (.agg #[.bool s2,.int .u64 x2,.int .u64 y2,.pointer p2]) m) (lc:Len c 10000) (lm:Len m 10000) :
   Calls prog 100 #[.int .i64 (k:Int),.agg #[.bool s1,.int .u64 x1,.int .u64 y1,.pointer p1],.agg #[.bool s2,.int .u64 x2,.int .u64 y2,.pointer p2]] w fun e w'=>e=.returned (.bool (decide (c*(((k:Nat):Int):Rat)<m)))∧But [] w w':=by(
 obtain⟨ws,wx,FW,CW⟩:=zda (k:Int) (by omega) (by omega)
 have lint:Len ((((k:Nat):Int)):Rat) 1:=zfn _ (by omega)
 obtain⟨r1,hr1⟩:∃ r1,r1=c*(((k:Nat):Int):Rat):=⟨_,rfl⟩
 have lr:Len r1 10001:=by rw[hr1];exact zaz lc lint _ (by omega)
 obtain⟨r,hr⟩:∃ r,r=zbz (m.num*(r1.den:Int)) (r1.num*(m.den:Int)):=⟨_,rfl⟩
 have hgt:=(zlw m r1 r hr).2.1
 obtain⟨W,hW⟩:∃ W,W=(w.alloc (.cells #[.bool s1,.int .u64 x1,.int .u64 y1,.pointer p1] 27)).alloc (.cells #[.bool s2,.int .u64 x2,.int .u64 y2,.pointer p2] 27):=⟨_,rfl⟩
 obtain⟨g4,hg4⟩:∃ g,g=w.heap.size:=⟨_,rfl⟩
 obtain⟨g5,hg5⟩:∃ g,g=w.heap.size+1:=⟨_,rfl⟩
 have bA:But [] w (w.alloc (.cells #[.bool s1,.int .u64 x1,.int .u64 y1,.pointer p1] 27)):=(But.refl _ _).alloc _
 have k4:P4 W g4 s1 x1 y1 p1:=by
  rw[hW,hg4]
  have h:P4 (w.alloc (.cells #[.bool s1,.int .u64 x1,.int .u64 y1,.pointer p1] 27)) w.heap.size s1 x1 y1 p1:=⟨by simp,by simp,by simp,by simp⟩
  exact h.but ((But.refl [] _).alloc _) (by simp)
 have k5:P4 W g5 s2 x2 y2 p2:=by
  rw[hW,hg5]
  have e:(w.alloc (.cells #[.bool s1,.int .u64 x1,.int .u64 y1,.pointer p1] 27)).heap.size=w.heap.size+1:=by simp
  rw[← e]
  exact⟨by simp,by simp,by simp,by simp⟩
 have bW:But [] w W:=by rw[hW];exact ((But.refl _ _).alloc _).alloc _
 have HG:=af (And.intro hW (And.intro hg4 hg5))
 have fc:=hc.but bW
 have fm:=hm.but bW
 have BW:=af bW
 clear hW hg4 hg5 bA hc hm bW
 go_enter func100,ntmps100
 go_wp2
 rw[← (ae HG).1]
 try rw[← (ae HG).2.2]
 try rw[← (ae HG).2.1]
 clear HG
 refine zlc 1 _ _ W g4 g5 k r1 r _ s2 x2 y2 p2 s1 x1 y1 p1 ws wx 0 none (by simp) (by simp[Act.eval]) (by simp[Act.eval]) (by simp[Act.eval]) rfl k5 k4 CW (fun W' hb=>by rw[hr1];exact qeq (zal _ _ _ _ W' (fc.but hb) (FW W') (lc.mono (by omega)) (lint.mono (by omega)))) (fun W' y hb hy=>zew _ _ m r1 W' (fm.but hb) hy (lm.mono (by omega)) (lr.mono (by omega)) r hr) ?_
 intro za w1 hH
 simp only[bk,List.foldl_cons,List.foldl_nil,Act.put,List.setIfInBounds_toArray,List.set_cons_zero,List.set_cons_succ]
 have B1:=af ((ae BW).trans' hH.mem)
 have HGT:=af hgt
 have HR:=af hr1
 clear hH k4 k5 fc fm lc lm lint lr hr hr1 FW CW BW hgt
 go_wp2
 go_ret
 refine⟨?_,ae B1⟩
 have e:decide (r > 0)=decide (c*(((k:Nat):Int):Rat)<m):=by
  rw[← ae HR]
  exact decide_eq_decide.2 (ae HGT)
 rw[← e]
 rfl)
theorem zps:∀ args W,(callFunc 98 args).run prog W=.ok (.enter 98 args) W:=enters_of func98 (by kernel_rfl) rfl
theorem zna:∀ args W,(callFunc 100 args).run prog W=.ok (.enter 100 args) W:=enters_of func100 (by kernel_rfl) rfl
def byR (fs:List Rat) (x:Nat):Rat:=sgR (fun k=>if x<k then atR fs k else 0) fs.length
def dyR (fs:List Rat) (x:Nat):Rat:=sgR (fun k=>if x<k then ((((k:Int)-(x:Int):Int)):Rat)*atR fs k else 0) fs.length
theorem zfq (fs:List Rat) (k:Nat) (h:fs.length≤k):atR fs k=0:=by
 unfold atR
 rw[List.getElem?_eq_none h];rfl
theorem zeu (fs gs:List Rat) (n x j:Nat) (hn:n=max fs.length gs.length) (hj:x+j+1=n):upS (qw fs gs) n j=byR fs x-byR gs x:=by(
 rw[ztl _ _ _ j hj]
 have h:=zjr (atR fs) (atR gs) fs.length gs.length n x (fun _=>1) hn (zfq fs) (zfq gs)
 unfold byR
 rw[uo (fun k=>if x<k then atR fs k else 0) (fun k=>if x<k then atR fs k*(fun _=>(1:Rat)) k else 0) _ (fun k _=>by split <;> grind),uo (fun k=>if x<k then atR gs k else 0) (fun k=>if x<k then atR gs k*(fun _=>(1:Rat)) k else 0) _ (fun k _=>by split <;> grind),← h]
 exact uo _ _ _ (fun k _=>by
  show (if x<k then qw fs gs k else 0)=(if x<k then (atR fs k-atR gs k)*1 else 0)
  have:qw fs gs k=atR fs k-atR gs k:=rfl
  rw[this]
  split <;> grind))
theorem zxa (fs:List Rat) (x:Nat):dyR fs x=sgR (fun k=>if x<k then atR fs k*(((k:Nat):Int):Rat) else 0) fs.length-(((x:Nat):Int):Rat)*byR fs x:=by(
 unfold dyR byR
 rw[← zwj,← zot]
 refine uo _ _ _ (fun k _=>?_)
 show (if x<k then ((((k:Int)-(x:Int):Int)):Rat)*atR fs k else 0)=(if x<k then atR fs k*(((k:Nat):Int):Rat) else 0)-(((x:Nat):Int):Rat)*(if x<k then atR fs k else 0)
 split
 ·rw[Rat.intCast_sub];grind
 ·grind)
theorem zyt (fs gs:List Rat) (n x j:Nat) (hn:n=max fs.length gs.length) (hj:x+j+1=n):upM (qw fs gs) n j=dyR fs x-dyR gs x+(((x:Nat):Int):Rat)*upS (qw fs gs) n j:=by(
 rw[zeu fs gs n x j hn hj,ztm _ _ _ j hj,zxa,zxa]
 have h:=zjr (atR fs) (atR gs) fs.length gs.length n x (fun k=>(((k:Nat):Int):Rat)) hn (zfq fs) (zfq gs)
 have e:sgR (fun k=>if x<k then qw fs gs k*((k:Int):Rat) else 0) n=sgR (fun k=>if x<k then (atR fs k-atR gs k)*(fun k=>(((k:Nat):Int):Rat)) k else 0) n:=uo _ _ _ (fun k _=>rfl)
 rw[e,h]
 grind)
def abR (fs gs:List Rat) (x:Nat):Bool:=decide (byR gs x<byR fs x)
def deR (fs gs:List Rat) (x:Nat):Bool:=decide (dyR gs x<dyR fs x)
theorem zgn (va vb:Value) (fs gs:List Rat) (n:Nat) (w:World) (ha:av w va fs) (hb:av w vb gs) (hn:fs.length≤1000) (hm:gs.length≤1000) (lf:∀ f ∈ fs,Len f 1) (lg:∀ f ∈ gs,Len f 1) (hN:n=max fs.length gs.length) :
   Calls prog 30 #[va,vb] w fun e w'=>But [] w w'∧((jq fs gs≠0∧e=.returned (.tuple #[.bool false,.int .i64 0,.iface 33 (.int .i64 (jq fs gs))]))∨(jq fs gs=0∧∃ (bl:Bool) (f:Nat),e=.returned (.tuple #[.bool bl,.int .i64 (f:Int),.nilIface])∧nk (abR fs gs) n bl f)):=by(
 have CB:=af (zcy va vb fs gs 1 w ha hb hn hm lf lg (by omega))
 have NW:=af (fun W (h:But [] w W)=>zjg va vb fs gs n 98 (abR fs gs) W (ha.but h) (hb.but h) hn hm lf lg hN zps (fun k j W t1 a1 b1 q1 t2 a2 b2 q2 hkj f1 f2 l1 l2=>by
  have h:=zoh (k:Int) t1 a1 b1 q1 t2 a2 b2 q2 _ W f1
  rw[zeu fs gs n k j hN hkj] at h
  rw[show abR fs gs k=decide (0<byR fs k-byR gs k) from decide_eq_decide.2 ⟨fun h=>by grind,fun h=>by grind⟩]
  exact h))
 obtain⟨q,cap,rfl,-,-⟩:=id ha
 obtain⟨q',cap',rfl,-,-⟩:=id hb
 obtain⟨be,hbe⟩:∃ be,be=jq fs gs:=⟨_,rfl⟩
 rw[← hbe] at CB ⊢
 clear ha hb hbe lf lg
 obtain⟨ev,hev⟩:∃ ev,ev=zfs be:=⟨_,rfl⟩
 rw[← hev] at CB
 go_enter func30,ntmps30
 go_wp2_with fail
 refine (ae CB).mono ?_
 rintro e w1 ⟨rfl,hb1⟩
 have B1:=af hb1
 clear hb1 CB
 by_cases h0:be=0
 ·(
 obtain rfl:ev=.nilIface:=by rw[hev,h0];rfl
 clear hev
 go_wp2_with fail
 refine (ae NW _ (ae B1)).mono ?_
 rintro e w2 ⟨bl,f,rfl,hbl,hb2⟩
 have B2:=af ((ae B1).trans' hb2)
 have HBL:=af hbl
 clear hb2 hbl NW
 go_wp2
 exact bodyPost_ret (v:=.tuple #[.bool bl,.int .i64 (f:Int),.nilIface]) (by simp[results,results30,go_sem]) rfl ⟨ae B2,.inr ⟨h0,bl,f,rfl,ae HBL⟩⟩)
 ·obtain rfl:ev=.iface 33 (.int .i64 be):=by rw[hev];unfold zfs;rw[if_neg h0]
  clear hev
  go_wp2
  exact bodyPost_ret (v:=.tuple #[.bool false,.int .i64 0,.iface 33 (.int .i64 be)]) (by simp[results,results30,go_sem]) rfl ⟨ae B1,.inl ⟨h0,rfl⟩⟩)
theorem zld (va vb:Value) (fs gs:List Rat) (n:Nat) (w:World) (ha:av w va fs) (hb:av w vb gs) (hn:fs.length≤1000) (hm:gs.length≤1000) (lf:∀ f ∈ fs,Len f 1) (lg:∀ f ∈ gs,Len f 1) (hN:n=max fs.length gs.length) :
   Calls prog 31 #[va,vb] w fun e w'=>But [] w w'∧((jq fs gs≠0∧e=.returned (.tuple #[.bool false,.int .i64 0,.iface 33 (.int .i64 (jq fs gs))]))∨(jq fs gs=0∧∃ (bl:Bool) (f:Nat),e=.returned (.tuple #[.bool bl,.int .i64 (f:Int),.nilIface])∧nk (deR fs gs) n bl f)):=by(
 have CB:=af (zcy va vb fs gs 1 w ha hb hn hm lf lg (by omega))
 have NW:=af (fun W (h:But [] w W)=>zjg va vb fs gs n 100 (deR fs gs) W (ha.but h) (hb.but h) hn hm lf lg hN zna (fun k j W t1 a1 b1 q1 t2 a2 b2 q2 hkj f1 f2 l1 l2=>by
  have h:=zrh k (by omega) t1 a1 b1 q1 t2 a2 b2 q2 _ _ W f1 f2 l1 l2
  have e:=zyt fs gs n k j hN hkj
  rw[show deR fs gs k=decide (upS (qw fs gs) n j*(((k:Nat):Int):Rat)<upM (qw fs gs) n j) from decide_eq_decide.2 ⟨fun h=>by rw[e];grind,fun h=>by rw[e] at h;grind⟩]
  exact h))
 obtain⟨q,cap,rfl,-,-⟩:=id ha
 obtain⟨q',cap',rfl,-,-⟩:=id hb
 obtain⟨be,hbe⟩:∃ be,be=jq fs gs:=⟨_,rfl⟩
 rw[← hbe] at CB ⊢
 clear ha hb hbe lf lg
 obtain⟨ev,hev⟩:∃ ev,ev=zfs be:=⟨_,rfl⟩
 rw[← hev] at CB
 go_enter func31,ntmps31
 go_wp2_with fail
 refine (ae CB).mono ?_
 rintro e w1 ⟨rfl,hb1⟩
 have B1:=af hb1
 clear hb1 CB
 by_cases h0:be=0
 ·(
 obtain rfl:ev=.nilIface:=by rw[hev,h0];rfl
 clear hev
 go_wp2_with fail
 refine (ae NW _ (ae B1)).mono ?_
 rintro e w2 ⟨bl,f,rfl,hbl,hb2⟩
 have B2:=af ((ae B1).trans' hb2)
 have HBL:=af hbl
 clear hb2 hbl NW
 go_wp2
 exact bodyPost_ret (v:=.tuple #[.bool bl,.int .i64 (f:Int),.nilIface]) (by simp[results,results31,go_sem]) rfl ⟨ae B2,.inr ⟨h0,bl,f,rfl,ae HBL⟩⟩)
 ·obtain rfl:ev=.iface 33 (.int .i64 be):=by rw[hev];unfold zfs;rw[if_neg h0]
  clear hev
  go_wp2
  exact bodyPost_ret (v:=.tuple #[.bool false,.int .i64 0,.iface 33 (.int .i64 be)]) (by simp[results,results31,go_sem]) rfl ⟨ae B1,.inl ⟨h0,rfl⟩⟩)
theorem zlz (va vb:Value) (fs gs:List Rat) (w:World) (ha:av w va fs) (hb:av w vb gs) (hn:fs.length≤1000) (hm:gs.length≤1000) (lf:∀ f ∈ fs,Len f 1) (lg:∀ f ∈ gs,Len f 1) (hbe:jq fs gs=0) (hl:40<fs.length∨40<gs.length) :
   Calls prog 32 #[va,vb] w fun e w'=>e=.returned (.tuple #[.slice none 0 0,.iface 33 (.int .i64 4)])∧But [] w w':=by(
 have AL:=af (zgn va vb fs gs _ w ha hb hn hm lf lg rfl)
 obtain⟨q,cap,rfl,-,-⟩:=id ha
 obtain⟨q',cap',rfl,-,-⟩:=id hb
 clear ha hb lf lg
 have AL2:Hid (Calls prog 30 #[.slice q fs.length cap,.slice q' gs.length cap'] w fun e w'=>∃ (bl:Bool) (f:Nat),e=.returned (.tuple #[.bool bl,.int .i64 (f:Int),.nilIface])∧But [] w w'):=(ae AL).mono fun e w' ⟨h1,h2⟩=>by
  rcases h2 with ⟨h,-⟩|⟨-,bl,f,he,-⟩
  ·exact absurd hbe h
  ·exact⟨bl,f,he,h1⟩
 clear AL hbe
 generalize fs.length=n at *
 generalize gs.length=m at *
 have hx:n > 40∨(¬ n > 40∧m > 40):=by omega
 clear hl
 rcases hx with h1|⟨h1,h2⟩
 all_goals(
 go_enter func32,ntmps32
 go_wp2_with fail
 refine (ae AL2).mono ?_
 rintro e w1 ⟨bl,f,rfl,hb1⟩
 dsimp only
 have B1:=af hb1
 clear hb1 AL2
 go_wp2
 exact bodyPost_ret (v:=.tuple #[.slice none 0 0,.iface 33 (.int .i64 4)]) (by simp[results,results32,go_sem]) rfl ⟨rfl,ae B1⟩))
theorem zuv (aa ab:Option Addr) (na ca nb cb:Nat) (fs gs:List Rat) (w:World) (hna:na≤60∨201<na∧na≤230) (hnb:nb≤60∨201<nb∧nb≤230) (zx zy z:Int) (ev1 ev2 ev3:Value) (hz:(z != 0)=true) (hzz:(z==z)=true) (hz0:(zx==0)=false) (hzx:zx=z) (LIA:∀ W,But [] w W→Calls prog 15 #[.slice aa na ca] W fun e w'=>∃ v,e=.returned v∧zn w' v fs∧But [] W w') (LIB:∀ W,But [] w W→Calls prog 15 #[.slice ab nb cb] W fun e w'=>∃ v,e=.returned v∧zn w' v gs∧But [] W w') (LCA:∀ W v,zn W v fs→Calls prog 29 #[v] W fun e w'=>e=.returned (.int .i64 zx)∧But [] W w') (LCB:∀ W v,zn W v gs→Calls prog 29 #[v] W fun e w'=>e=.returned (.int .i64 zy)∧But [] W w') (PLA:∀ W,But [] w W→Calls prog 18 #[.slice aa na ca] W fun e w'=>∃ v,e=.returned v∧av w' v fs∧But [] W w') (PLB:∀ W,But [] w W→Calls prog 18 #[.slice ab nb cb] W fun e w'=>∃ v,e=.returned v∧av w' v gs∧But [] W w') (AL:∀ W va vb,But [] w W→av W va fs→av W vb gs→Calls prog 30 #[va,vb] W fun e w'=>e=.returned (.tuple #[.bool false,.int .i64 0,ev1])∧But [] W w') (RA:∀ W va vb,But [] w W→av W va fs→av W vb gs→Calls prog 31 #[va,vb] W fun e w'=>e=.returned (.tuple #[.bool false,.int .i64 0,ev2])∧But [] W w') (TE1:∀ W,But [] w W→Calls prog 10 #[ev1] W fun e w'=>e=.returned (.int .i64 z)∧But [] W w') (TE2:∀ W,But [] w W→Calls prog 10 #[ev2] W fun e w'=>e=.returned (.int .i64 z)∧But [] W w') (BE:∀ W va vb,But [] w W→av W va fs→av W vb gs→Calls prog 32 #[va,vb] W fun e w'=>e=.returned (.tuple #[.slice none 0 0,ev3])∧But [] W w') (TE3:∀ W,But [] w W→Calls prog 10 #[ev3] W fun e w'=>e=.returned (.int .i64 z)∧But [] W w') :
   Calls prog 6 #[.slice aa na ca,.slice ab nb cb] w fun e w'=>e=.returned (.bool true)∧But [] w w':=by(
 have LIAH:=af LIA
 have LIBH:=af LIB
 have LCAH:=af LCA
 have LCBH:=af LCB
 have PLAH:=af PLA
 have PLBH:=af PLB
 have ALH:=af AL
 have RAH:=af RA
 have TE1H:=af TE1
 have TE2H:=af TE2
 have BEH:=af BE
 have TE3H:=af TE3
 clear LIA LIB LCA LCB PLA PLB AL RA TE1 TE2 BE TE3
 have hga:(na≤60∧¬ 60<na∧¬ 230<na)∨(60<na∧¬ na≤201∧¬ 230<na):=by omega
 have hgb:(nb≤60∧¬ 60<nb∧¬ 230<nb)∨(60<nb∧¬ nb≤201∧¬ 230<nb):=by omega
 clear hna hnb
 subst hzx
 have hzn:(zx != zx)=false:=by simp
 have HB:=af (But.refl [] w)
 go_enter func6,ntmps6
 rcases hga with ⟨q1,q2,q3⟩|⟨q1,q2,q3⟩ <;> rcases hgb with ⟨r1,r2,r3⟩|⟨r1,r2,r3⟩
 all_goals(
 go_wp2_with fail
 refine (ae LIAH _ (ae HB)).mono ?_
 rintro e w1 ⟨v1,rfl,h1,hb⟩
 replace HB:=af ((ae HB).trans' hb)
 have RX:=af (h1)
 clear h1 hb LIAH
 go_wp2_with fail
 refine (ae LIBH _ (ae HB)).mono ?_
 rintro e w2 ⟨v2,rfl,h2,hb⟩
 replace HB:=af ((ae HB).trans' hb)
 replace RX:=af ((ae RX).but hb)
 have RY:=af (h2)
 clear h2 hb LIBH
 go_wp2_with fail
 refine (ae LCAH _ _ (ae RX)).mono ?_
 rintro e w3 ⟨rfl,hb⟩
 replace HB:=af ((ae HB).trans' hb)
 replace RX:=af ((ae RX).but hb)
 replace RY:=af ((ae RY).but hb)
 clear hb LCAH
 go_wp2_with fail
 refine (ae PLAH _ (ae HB)).mono ?_
 rintro e w50 ⟨va0,rfl,h5,hb⟩
 replace HB:=af ((ae HB).trans' hb)
 replace RX:=af ((ae RX).but hb)
 replace RY:=af ((ae RY).but hb)
 have FA0:=af (h5)
 clear h5 hb
 go_wp2_with fail
 refine (ae PLBH _ (ae HB)).mono ?_
 rintro e w60 ⟨vb0,rfl,h6,hb⟩
 replace HB:=af ((ae HB).trans' hb)
 replace RX:=af ((ae RX).but hb)
 replace RY:=af ((ae RY).but hb)
 replace FA0:=af ((ae FA0).but hb)
 have FB0:=af (h6)
 clear h6 hb
 go_wp2_with fail
 refine (ae ALH _ _ _ (ae HB) (ae FA0) (ae FB0)).mono ?_
 rintro e w70 ⟨rfl,hb⟩
 replace HB:=af ((ae HB).trans' hb)
 replace RX:=af ((ae RX).but hb)
 replace RY:=af ((ae RY).but hb)
 clear hb FA0 FB0 ALH
 go_wp2_with fail
 refine (ae PLAH _ (ae HB)).mono ?_
 rintro e w51 ⟨va1,rfl,h5,hb⟩
 replace HB:=af ((ae HB).trans' hb)
 replace RX:=af ((ae RX).but hb)
 replace RY:=af ((ae RY).but hb)
 have FA1:=af (h5)
 clear h5 hb
 go_wp2_with fail
 refine (ae PLBH _ (ae HB)).mono ?_
 rintro e w61 ⟨vb1,rfl,h6,hb⟩
 replace HB:=af ((ae HB).trans' hb)
 replace RX:=af ((ae RX).but hb)
 replace RY:=af ((ae RY).but hb)
 replace FA1:=af ((ae FA1).but hb)
 have FB1:=af (h6)
 clear h6 hb
 go_wp2_with fail
 refine (ae RAH _ _ _ (ae HB) (ae FA1) (ae FB1)).mono ?_
 rintro e w71 ⟨rfl,hb⟩
 replace HB:=af ((ae HB).trans' hb)
 replace RX:=af ((ae RX).but hb)
 replace RY:=af ((ae RY).but hb)
 clear hb FA1 FB1 RAH
 go_wp2_with fail
 refine (ae PLAH _ (ae HB)).mono ?_
 rintro e w52 ⟨va2,rfl,h5,hb⟩
 replace HB:=af ((ae HB).trans' hb)
 replace RX:=af ((ae RX).but hb)
 replace RY:=af ((ae RY).but hb)
 have FA2:=af (h5)
 clear h5 hb
 go_wp2_with fail
 refine (ae PLBH _ (ae HB)).mono ?_
 rintro e w62 ⟨vb2,rfl,h6,hb⟩
 replace HB:=af ((ae HB).trans' hb)
 replace RX:=af ((ae RX).but hb)
 replace RY:=af ((ae RY).but hb)
 replace FA2:=af ((ae FA2).but hb)
 have FB2:=af (h6)
 clear h6 hb
 go_wp2_with fail
 refine (ae BEH _ _ _ (ae HB) (ae FA2) (ae FB2)).mono ?_
 rintro e w72 ⟨rfl,hb⟩
 replace HB:=af ((ae HB).trans' hb)
 replace RX:=af ((ae RX).but hb)
 replace RY:=af ((ae RY).but hb)
 clear hb FA2 FB2 BEH PLAH PLBH
 go_wp2_with fail
 refine (ae TE1H _ (ae HB)).mono ?_
 rintro e w8 ⟨rfl,hb⟩
 replace HB:=af ((ae HB).trans' hb)
 replace RX:=af ((ae RX).but hb)
 replace RY:=af ((ae RY).but hb)
 clear hb TE1H
 go_wp2_with fail
 refine (ae TE2H _ (ae HB)).mono ?_
 rintro e w9 ⟨rfl,hb⟩
 replace HB:=af ((ae HB).trans' hb)
 replace RX:=af ((ae RX).but hb)
 replace RY:=af ((ae RY).but hb)
 clear hb TE2H
 go_wp2_with fail
 refine (ae TE3H _ (ae HB)).mono ?_
 rintro e wa ⟨rfl,hb⟩
 replace HB:=af ((ae HB).trans' hb)
 clear hb TE3H
 go_wp2
 go_ret
 exact⟨rfl,ae HB⟩))
theorem zuu (aa ab:Option Addr) (na ca nb cb:Nat) (fs gs:List Rat) (w:World) (hna:na≤60∨201<na∧na≤230) (hnb:nb≤60∨201<nb∧nb≤230) (zx zy z:Int) (ev1 ev2 ev3:Value) (hz:(z != 0)=true) (hzz:(z==z)=true) (hz0:zx=0) (hzx:zy=z) (LIA:∀ W,But [] w W→Calls prog 15 #[.slice aa na ca] W fun e w'=>∃ v,e=.returned v∧zn w' v fs∧But [] W w') (LIB:∀ W,But [] w W→Calls prog 15 #[.slice ab nb cb] W fun e w'=>∃ v,e=.returned v∧zn w' v gs∧But [] W w') (LCA:∀ W v,zn W v fs→Calls prog 29 #[v] W fun e w'=>e=.returned (.int .i64 zx)∧But [] W w') (LCB:∀ W v,zn W v gs→Calls prog 29 #[v] W fun e w'=>e=.returned (.int .i64 zy)∧But [] W w') (PLA:∀ W,But [] w W→Calls prog 18 #[.slice aa na ca] W fun e w'=>∃ v,e=.returned v∧av w' v fs∧But [] W w') (PLB:∀ W,But [] w W→Calls prog 18 #[.slice ab nb cb] W fun e w'=>∃ v,e=.returned v∧av w' v gs∧But [] W w') (AL:∀ W va vb,But [] w W→av W va fs→av W vb gs→Calls prog 30 #[va,vb] W fun e w'=>e=.returned (.tuple #[.bool false,.int .i64 0,ev1])∧But [] W w') (RA:∀ W va vb,But [] w W→av W va fs→av W vb gs→Calls prog 31 #[va,vb] W fun e w'=>e=.returned (.tuple #[.bool false,.int .i64 0,ev2])∧But [] W w') (TE1:∀ W,But [] w W→Calls prog 10 #[ev1] W fun e w'=>e=.returned (.int .i64 z)∧But [] W w') (TE2:∀ W,But [] w W→Calls prog 10 #[ev2] W fun e w'=>e=.returned (.int .i64 z)∧But [] W w') (BE:∀ W va vb,But [] w W→av W va fs→av W vb gs→Calls prog 32 #[va,vb] W fun e w'=>e=.returned (.tuple #[.slice none 0 0,ev3])∧But [] W w') (TE3:∀ W,But [] w W→Calls prog 10 #[ev3] W fun e w'=>e=.returned (.int .i64 z)∧But [] W w') :
   Calls prog 6 #[.slice aa na ca,.slice ab nb cb] w fun e w'=>e=.returned (.bool true)∧But [] w w':=by(
 have LIAH:=af LIA
 have LIBH:=af LIB
 have LCAH:=af LCA
 have LCBH:=af LCB
 have PLAH:=af PLA
 have PLBH:=af PLB
 have ALH:=af AL
 have RAH:=af RA
 have TE1H:=af TE1
 have TE2H:=af TE2
 have BEH:=af BE
 have TE3H:=af TE3
 clear LIA LIB LCA LCB PLA PLB AL RA TE1 TE2 BE TE3
 have hga:(na≤60∧¬ 60<na∧¬ 230<na)∨(60<na∧¬ na≤201∧¬ 230<na):=by omega
 have hgb:(nb≤60∧¬ 60<nb∧¬ 230<nb)∨(60<nb∧¬ nb≤201∧¬ 230<nb):=by omega
 clear hna hnb
 subst hzx hz0
 have hzn:(zy != zy)=false:=by simp
 have HB:=af (But.refl [] w)
 go_enter func6,ntmps6
 rcases hga with ⟨q1,q2,q3⟩|⟨q1,q2,q3⟩ <;> rcases hgb with ⟨r1,r2,r3⟩|⟨r1,r2,r3⟩
 all_goals(
 go_wp2_with fail
 refine (ae LIAH _ (ae HB)).mono ?_
 rintro e w1 ⟨v1,rfl,h1,hb⟩
 replace HB:=af ((ae HB).trans' hb)
 have RX:=af (h1)
 clear h1 hb LIAH
 go_wp2_with fail
 refine (ae LIBH _ (ae HB)).mono ?_
 rintro e w2 ⟨v2,rfl,h2,hb⟩
 replace HB:=af ((ae HB).trans' hb)
 replace RX:=af ((ae RX).but hb)
 have RY:=af (h2)
 clear h2 hb LIBH
 go_wp2_with fail
 refine (ae LCAH _ _ (ae RX)).mono ?_
 rintro e w3 ⟨rfl,hb⟩
 replace HB:=af ((ae HB).trans' hb)
 replace RX:=af ((ae RX).but hb)
 replace RY:=af ((ae RY).but hb)
 clear hb LCAH
 go_wp2_with fail
 refine (ae LCBH _ _ (ae RY)).mono ?_
 rintro e w4 ⟨rfl,hb⟩
 replace HB:=af ((ae HB).trans' hb)
 replace RX:=af ((ae RX).but hb)
 replace RY:=af ((ae RY).but hb)
 clear hb LCBH
 go_wp2_with fail
 refine (ae PLAH _ (ae HB)).mono ?_
 rintro e w50 ⟨va0,rfl,h5,hb⟩
 replace HB:=af ((ae HB).trans' hb)
 replace RX:=af ((ae RX).but hb)
 replace RY:=af ((ae RY).but hb)
 have FA0:=af (h5)
 clear h5 hb
 go_wp2_with fail
 refine (ae PLBH _ (ae HB)).mono ?_
 rintro e w60 ⟨vb0,rfl,h6,hb⟩
 replace HB:=af ((ae HB).trans' hb)
 replace RX:=af ((ae RX).but hb)
 replace RY:=af ((ae RY).but hb)
 replace FA0:=af ((ae FA0).but hb)
 have FB0:=af (h6)
 clear h6 hb
 go_wp2_with fail
 refine (ae ALH _ _ _ (ae HB) (ae FA0) (ae FB0)).mono ?_
 rintro e w70 ⟨rfl,hb⟩
 replace HB:=af ((ae HB).trans' hb)
 replace RX:=af ((ae RX).but hb)
 replace RY:=af ((ae RY).but hb)
 clear hb FA0 FB0 ALH
 go_wp2_with fail
 refine (ae PLAH _ (ae HB)).mono ?_
 rintro e w51 ⟨va1,rfl,h5,hb⟩
 replace HB:=af ((ae HB).trans' hb)
 replace RX:=af ((ae RX).but hb)
 replace RY:=af ((ae RY).but hb)
 have FA1:=af (h5)
 clear h5 hb
 go_wp2_with fail
 refine (ae PLBH _ (ae HB)).mono ?_
 rintro e w61 ⟨vb1,rfl,h6,hb⟩
 replace HB:=af ((ae HB).trans' hb)
 replace RX:=af ((ae RX).but hb)
 replace RY:=af ((ae RY).but hb)
 replace FA1:=af ((ae FA1).but hb)
 have FB1:=af (h6)
 clear h6 hb
 go_wp2_with fail
 refine (ae RAH _ _ _ (ae HB) (ae FA1) (ae FB1)).mono ?_
 rintro e w71 ⟨rfl,hb⟩
 replace HB:=af ((ae HB).trans' hb)
 replace RX:=af ((ae RX).but hb)
 replace RY:=af ((ae RY).but hb)
 clear hb FA1 FB1 RAH
 go_wp2_with fail
 refine (ae PLAH _ (ae HB)).mono ?_
 rintro e w52 ⟨va2,rfl,h5,hb⟩
 replace HB:=af ((ae HB).trans' hb)
 replace RX:=af ((ae RX).but hb)
 replace RY:=af ((ae RY).but hb)
 have FA2:=af (h5)
 clear h5 hb
 go_wp2_with fail
 refine (ae PLBH _ (ae HB)).mono ?_
 rintro e w62 ⟨vb2,rfl,h6,hb⟩
 replace HB:=af ((ae HB).trans' hb)
 replace RX:=af ((ae RX).but hb)
 replace RY:=af ((ae RY).but hb)
 replace FA2:=af ((ae FA2).but hb)
 have FB2:=af (h6)
 clear h6 hb
 go_wp2_with fail
 refine (ae BEH _ _ _ (ae HB) (ae FA2) (ae FB2)).mono ?_
 rintro e w72 ⟨rfl,hb⟩
 replace HB:=af ((ae HB).trans' hb)
 replace RX:=af ((ae RX).but hb)
 replace RY:=af ((ae RY).but hb)
 clear hb FA2 FB2 BEH PLAH PLBH
 go_wp2_with fail
 refine (ae TE1H _ (ae HB)).mono ?_
 rintro e w8 ⟨rfl,hb⟩
 replace HB:=af ((ae HB).trans' hb)
 replace RX:=af ((ae RX).but hb)
 replace RY:=af ((ae RY).but hb)
 clear hb TE1H
 go_wp2_with fail
 refine (ae TE2H _ (ae HB)).mono ?_
 rintro e w9 ⟨rfl,hb⟩
 replace HB:=af ((ae HB).trans' hb)
 replace RX:=af ((ae RX).but hb)
 replace RY:=af ((ae RY).but hb)
 clear hb TE2H
 go_wp2_with fail
 refine (ae TE3H _ (ae HB)).mono ?_
 rintro e wa ⟨rfl,hb⟩
 replace HB:=af ((ae HB).trans' hb)
 clear hb TE3H
 go_wp2
 go_ret
 exact⟨rfl,ae HB⟩))
theorem zrw (aa ab:Option Addr) (na ca nb cb:Nat) (fs gs:List Rat) (w:World) (hna:na≤60∨201<na∧na≤230) (hnb:nb≤60∨201<nb∧nb≤230) (bl b2:Bool) (f1 f2:Int) (ev1 ev2 ev3:Value) (hl1:40<na) (LIA:∀ W,But [] w W→Calls prog 15 #[.slice aa na ca] W fun e w'=>∃ v,e=.returned v∧zn w' v fs∧But [] W w') (LIB:∀ W,But [] w W→Calls prog 15 #[.slice ab nb cb] W fun e w'=>∃ v,e=.returned v∧zn w' v gs∧But [] W w') (LCA:∀ W v,zn W v fs→Calls prog 29 #[v] W fun e w'=>e=.returned (.int .i64 0)∧But [] W w') (LCB:∀ W v,zn W v gs→Calls prog 29 #[v] W fun e w'=>e=.returned (.int .i64 0)∧But [] W w') (PLA:∀ W,But [] w W→Calls prog 18 #[.slice aa na ca] W fun e w'=>∃ v,e=.returned v∧av w' v fs∧But [] W w') (PLB:∀ W,But [] w W→Calls prog 18 #[.slice ab nb cb] W fun e w'=>∃ v,e=.returned v∧av w' v gs∧But [] W w') (AL:∀ W va vb,But [] w W→av W va fs→av W vb gs→Calls prog 30 #[va,vb] W fun e w'=>e=.returned (.tuple #[.bool bl,.int .i64 f1,ev1])∧But [] W w') (RA:∀ W va vb,But [] w W→av W va fs→av W vb gs→Calls prog 31 #[va,vb] W fun e w'=>e=.returned (.tuple #[.bool b2,.int .i64 f2,ev2])∧But [] W w') (TE1:∀ W,But [] w W→Calls prog 10 #[ev1] W fun e w'=>e=.returned (.int .i64 0)∧But [] W w') (TE2:∀ W,But [] w W→Calls prog 10 #[ev2] W fun e w'=>e=.returned (.int .i64 0)∧But [] W w') (BE:∀ W va vb,But [] w W→av W va fs→av W vb gs→Calls prog 32 #[va,vb] W fun e w'=>e=.returned (.tuple #[.slice none 0 0,ev3])∧But [] W w') (TE3:∀ W,But [] w W→Calls prog 10 #[ev3] W fun e w'=>e=.returned (.int .i64 4)∧But [] W w') (RAL:∀ W va vb,zn W va fs→zn W vb gs→Calls prog 33 #[va,vb] W fun e w'=>e=.returned (.tuple #[.bool bl,.int .i64 f1])∧But [] W w') (RRA:∀ W va vb,zn W va fs→zn W vb gs→Calls prog 34 #[va,vb] W fun e w'=>e=.returned (.tuple #[.bool b2,.int .i64 f2])∧But [] W w') :
   Calls prog 6 #[.slice aa na ca,.slice ab nb cb] w fun e w'=>e=.returned (.bool true)∧But [] w w':=by(
 have LIAH:=af LIA
 have LIBH:=af LIB
 have LCAH:=af LCA
 have LCBH:=af LCB
 have PLAH:=af PLA
 have PLBH:=af PLB
 have ALH:=af AL
 have RAH:=af RA
 have TE1H:=af TE1
 have TE2H:=af TE2
 have BEH:=af BE
 have TE3H:=af TE3
 have RALH:=af RAL
 have RRAH:=af RRA
 clear LIA LIB LCA LCB PLA PLB AL RA TE1 TE2 BE TE3 RAL RRA
 have hga:(na≤60∧¬ 60<na∧¬ 230<na)∨(60<na∧¬ na≤201∧¬ 230<na):=by omega
 have hgb:(nb≤60∧¬ 60<nb∧¬ 230<nb)∨(60<nb∧¬ nb≤201∧¬ 230<nb):=by omega
 clear hna hnb
 have hbl:(bl != bl)=false:=by simp
 have hb2:(b2 != b2)=false:=by simp
 have hf1:(f1 != f1)=false:=by simp
 have hf2:(f2 != f2)=false:=by simp
 have HB:=af (But.refl [] w)
 go_enter func6,ntmps6
 rcases hga with ⟨q1,q2,q3⟩|⟨q1,q2,q3⟩ <;> rcases hgb with ⟨r1,r2,r3⟩|⟨r1,r2,r3⟩
 all_goals(
 go_wp2_with fail
 refine (ae LIAH _ (ae HB)).mono ?_
 rintro e w1 ⟨v1,rfl,h1,hb⟩
 replace HB:=af ((ae HB).trans' hb)
 have RX:=af (h1)
 clear h1 hb LIAH
 go_wp2_with fail
 refine (ae LIBH _ (ae HB)).mono ?_
 rintro e w2 ⟨v2,rfl,h2,hb⟩
 replace HB:=af ((ae HB).trans' hb)
 replace RX:=af ((ae RX).but hb)
 have RY:=af (h2)
 clear h2 hb LIBH
 go_wp2_with fail
 refine (ae LCAH _ _ (ae RX)).mono ?_
 rintro e w3 ⟨rfl,hb⟩
 replace HB:=af ((ae HB).trans' hb)
 replace RX:=af ((ae RX).but hb)
 replace RY:=af ((ae RY).but hb)
 clear hb LCAH
 go_wp2_with fail
 refine (ae LCBH _ _ (ae RY)).mono ?_
 rintro e w4 ⟨rfl,hb⟩
 replace HB:=af ((ae HB).trans' hb)
 replace RX:=af ((ae RX).but hb)
 replace RY:=af ((ae RY).but hb)
 clear hb LCBH
 go_wp2_with fail
 refine (ae PLAH _ (ae HB)).mono ?_
 rintro e w50 ⟨va0,rfl,h5,hb⟩
 replace HB:=af ((ae HB).trans' hb)
 replace RX:=af ((ae RX).but hb)
 replace RY:=af ((ae RY).but hb)
 have FA0:=af (h5)
 clear h5 hb
 go_wp2_with fail
 refine (ae PLBH _ (ae HB)).mono ?_
 rintro e w60 ⟨vb0,rfl,h6,hb⟩
 replace HB:=af ((ae HB).trans' hb)
 replace RX:=af ((ae RX).but hb)
 replace RY:=af ((ae RY).but hb)
 replace FA0:=af ((ae FA0).but hb)
 have FB0:=af (h6)
 clear h6 hb
 go_wp2_with fail
 refine (ae ALH _ _ _ (ae HB) (ae FA0) (ae FB0)).mono ?_
 rintro e w70 ⟨rfl,hb⟩
 replace HB:=af ((ae HB).trans' hb)
 replace RX:=af ((ae RX).but hb)
 replace RY:=af ((ae RY).but hb)
 clear hb FA0 FB0 ALH
 go_wp2_with fail
 refine (ae PLAH _ (ae HB)).mono ?_
 rintro e w51 ⟨va1,rfl,h5,hb⟩
 replace HB:=af ((ae HB).trans' hb)
 replace RX:=af ((ae RX).but hb)
 replace RY:=af ((ae RY).but hb)
 have FA1:=af (h5)
 clear h5 hb
 go_wp2_with fail
 refine (ae PLBH _ (ae HB)).mono ?_
 rintro e w61 ⟨vb1,rfl,h6,hb⟩
 replace HB:=af ((ae HB).trans' hb)
 replace RX:=af ((ae RX).but hb)
 replace RY:=af ((ae RY).but hb)
 replace FA1:=af ((ae FA1).but hb)
 have FB1:=af (h6)
 clear h6 hb
 go_wp2_with fail
 refine (ae RAH _ _ _ (ae HB) (ae FA1) (ae FB1)).mono ?_
 rintro e w71 ⟨rfl,hb⟩
 replace HB:=af ((ae HB).trans' hb)
 replace RX:=af ((ae RX).but hb)
 replace RY:=af ((ae RY).but hb)
 clear hb FA1 FB1 RAH
 go_wp2_with fail
 refine (ae PLAH _ (ae HB)).mono ?_
 rintro e w52 ⟨va2,rfl,h5,hb⟩
 replace HB:=af ((ae HB).trans' hb)
 replace RX:=af ((ae RX).but hb)
 replace RY:=af ((ae RY).but hb)
 have FA2:=af (h5)
 clear h5 hb
 go_wp2_with fail
 refine (ae PLBH _ (ae HB)).mono ?_
 rintro e w62 ⟨vb2,rfl,h6,hb⟩
 replace HB:=af ((ae HB).trans' hb)
 replace RX:=af ((ae RX).but hb)
 replace RY:=af ((ae RY).but hb)
 replace FA2:=af ((ae FA2).but hb)
 have FB2:=af (h6)
 clear h6 hb
 go_wp2_with fail
 refine (ae BEH _ _ _ (ae HB) (ae FA2) (ae FB2)).mono ?_
 rintro e w72 ⟨rfl,hb⟩
 replace HB:=af ((ae HB).trans' hb)
 replace RX:=af ((ae RX).but hb)
 replace RY:=af ((ae RY).but hb)
 clear hb FA2 FB2 BEH PLAH PLBH
 go_wp2_with fail
 refine (ae TE1H _ (ae HB)).mono ?_
 rintro e w8 ⟨rfl,hb⟩
 replace HB:=af ((ae HB).trans' hb)
 replace RX:=af ((ae RX).but hb)
 replace RY:=af ((ae RY).but hb)
 clear hb TE1H
 go_wp2_with fail
 refine (ae TE2H _ (ae HB)).mono ?_
 rintro e w9 ⟨rfl,hb⟩
 replace HB:=af ((ae HB).trans' hb)
 replace RX:=af ((ae RX).but hb)
 replace RY:=af ((ae RY).but hb)
 clear hb TE2H
 go_wp2_with fail
 refine (ae RALH _ _ _ (ae RX) (ae RY)).mono ?_
 rintro e wb ⟨rfl,hb⟩
 replace HB:=af ((ae HB).trans' hb)
 replace RX:=af ((ae RX).but hb)
 replace RY:=af ((ae RY).but hb)
 clear hb RALH
 go_wp2_with fail
 refine (ae RRAH _ _ _ (ae RX) (ae RY)).mono ?_
 rintro e wc ⟨rfl,hb⟩
 replace HB:=af ((ae HB).trans' hb)
 replace RX:=af ((ae RX).but hb)
 replace RY:=af ((ae RY).but hb)
 clear hb RRAH
 go_wp2_with fail
 refine (ae TE3H _ (ae HB)).mono ?_
 rintro e wa ⟨rfl,hb⟩
 replace HB:=af ((ae HB).trans' hb)
 clear hb TE3H
 go_wp2
 go_ret
 exact⟨rfl,ae HB⟩))
theorem zrv (aa ab:Option Addr) (na ca nb cb:Nat) (fs gs:List Rat) (w:World) (hna:na≤60∨201<na∧na≤230) (hnb:nb≤60∨201<nb∧nb≤230) (bl b2:Bool) (f1 f2:Int) (ev1 ev2 ev3:Value) (hl1:¬ 40<na) (hl2:40<nb) (LIA:∀ W,But [] w W→Calls prog 15 #[.slice aa na ca] W fun e w'=>∃ v,e=.returned v∧zn w' v fs∧But [] W w') (LIB:∀ W,But [] w W→Calls prog 15 #[.slice ab nb cb] W fun e w'=>∃ v,e=.returned v∧zn w' v gs∧But [] W w') (LCA:∀ W v,zn W v fs→Calls prog 29 #[v] W fun e w'=>e=.returned (.int .i64 0)∧But [] W w') (LCB:∀ W v,zn W v gs→Calls prog 29 #[v] W fun e w'=>e=.returned (.int .i64 0)∧But [] W w') (PLA:∀ W,But [] w W→Calls prog 18 #[.slice aa na ca] W fun e w'=>∃ v,e=.returned v∧av w' v fs∧But [] W w') (PLB:∀ W,But [] w W→Calls prog 18 #[.slice ab nb cb] W fun e w'=>∃ v,e=.returned v∧av w' v gs∧But [] W w') (AL:∀ W va vb,But [] w W→av W va fs→av W vb gs→Calls prog 30 #[va,vb] W fun e w'=>e=.returned (.tuple #[.bool bl,.int .i64 f1,ev1])∧But [] W w') (RA:∀ W va vb,But [] w W→av W va fs→av W vb gs→Calls prog 31 #[va,vb] W fun e w'=>e=.returned (.tuple #[.bool b2,.int .i64 f2,ev2])∧But [] W w') (TE1:∀ W,But [] w W→Calls prog 10 #[ev1] W fun e w'=>e=.returned (.int .i64 0)∧But [] W w') (TE2:∀ W,But [] w W→Calls prog 10 #[ev2] W fun e w'=>e=.returned (.int .i64 0)∧But [] W w') (BE:∀ W va vb,But [] w W→av W va fs→av W vb gs→Calls prog 32 #[va,vb] W fun e w'=>e=.returned (.tuple #[.slice none 0 0,ev3])∧But [] W w') (TE3:∀ W,But [] w W→Calls prog 10 #[ev3] W fun e w'=>e=.returned (.int .i64 4)∧But [] W w') (RAL:∀ W va vb,zn W va fs→zn W vb gs→Calls prog 33 #[va,vb] W fun e w'=>e=.returned (.tuple #[.bool bl,.int .i64 f1])∧But [] W w') (RRA:∀ W va vb,zn W va fs→zn W vb gs→Calls prog 34 #[va,vb] W fun e w'=>e=.returned (.tuple #[.bool b2,.int .i64 f2])∧But [] W w') :
   Calls prog 6 #[.slice aa na ca,.slice ab nb cb] w fun e w'=>e=.returned (.bool true)∧But [] w w':=by(
 have LIAH:=af LIA
 have LIBH:=af LIB
 have LCAH:=af LCA
 have LCBH:=af LCB
 have PLAH:=af PLA
 have PLBH:=af PLB
 have ALH:=af AL
 have RAH:=af RA
 have TE1H:=af TE1
 have TE2H:=af TE2
 have BEH:=af BE
 have TE3H:=af TE3
 have RALH:=af RAL
 have RRAH:=af RRA
 clear LIA LIB LCA LCB PLA PLB AL RA TE1 TE2 BE TE3 RAL RRA
 have q2:¬ 60<na:=by omega
 have q3:¬ 230<na:=by omega
 have hgb:(nb≤60∧¬ 60<nb∧¬ 230<nb)∨(60<nb∧¬ nb≤201∧¬ 230<nb):=by omega
 clear hna hnb
 have hbl:(bl != bl)=false:=by simp
 have hb2:(b2 != b2)=false:=by simp
 have hf1:(f1 != f1)=false:=by simp
 have hf2:(f2 != f2)=false:=by simp
 have HB:=af (But.refl [] w)
 go_enter func6,ntmps6
 rcases hgb with ⟨r1,r2,r3⟩|⟨r1,r2,r3⟩
 all_goals(
 go_wp2_with fail
 refine (ae LIAH _ (ae HB)).mono ?_
 rintro e w1 ⟨v1,rfl,h1,hb⟩
 replace HB:=af ((ae HB).trans' hb)
 have RX:=af (h1)
 clear h1 hb LIAH
 go_wp2_with fail
 refine (ae LIBH _ (ae HB)).mono ?_
 rintro e w2 ⟨v2,rfl,h2,hb⟩
 replace HB:=af ((ae HB).trans' hb)
 replace RX:=af ((ae RX).but hb)
 have RY:=af (h2)
 clear h2 hb LIBH
 go_wp2_with fail
 refine (ae LCAH _ _ (ae RX)).mono ?_
 rintro e w3 ⟨rfl,hb⟩
 replace HB:=af ((ae HB).trans' hb)
 replace RX:=af ((ae RX).but hb)
 replace RY:=af ((ae RY).but hb)
 clear hb LCAH
 go_wp2_with fail
 refine (ae LCBH _ _ (ae RY)).mono ?_
 rintro e w4 ⟨rfl,hb⟩
 replace HB:=af ((ae HB).trans' hb)
 replace RX:=af ((ae RX).but hb)
 replace RY:=af ((ae RY).but hb)
 clear hb LCBH
 go_wp2_with fail
 refine (ae PLAH _ (ae HB)).mono ?_
 rintro e w50 ⟨va0,rfl,h5,hb⟩
 replace HB:=af ((ae HB).trans' hb)
 replace RX:=af ((ae RX).but hb)
 replace RY:=af ((ae RY).but hb)
 have FA0:=af (h5)
 clear h5 hb
 go_wp2_with fail
 refine (ae PLBH _ (ae HB)).mono ?_
 rintro e w60 ⟨vb0,rfl,h6,hb⟩
 replace HB:=af ((ae HB).trans' hb)
 replace RX:=af ((ae RX).but hb)
 replace RY:=af ((ae RY).but hb)
 replace FA0:=af ((ae FA0).but hb)
 have FB0:=af (h6)
 clear h6 hb
 go_wp2_with fail
 refine (ae ALH _ _ _ (ae HB) (ae FA0) (ae FB0)).mono ?_
 rintro e w70 ⟨rfl,hb⟩
 replace HB:=af ((ae HB).trans' hb)
 replace RX:=af ((ae RX).but hb)
 replace RY:=af ((ae RY).but hb)
 clear hb FA0 FB0 ALH
 go_wp2_with fail
 refine (ae PLAH _ (ae HB)).mono ?_
 rintro e w51 ⟨va1,rfl,h5,hb⟩
 replace HB:=af ((ae HB).trans' hb)
 replace RX:=af ((ae RX).but hb)
 replace RY:=af ((ae RY).but hb)
 have FA1:=af (h5)
 clear h5 hb
 go_wp2_with fail
 refine (ae PLBH _ (ae HB)).mono ?_
 rintro e w61 ⟨vb1,rfl,h6,hb⟩
 replace HB:=af ((ae HB).trans' hb)
 replace RX:=af ((ae RX).but hb)
 replace RY:=af ((ae RY).but hb)
 replace FA1:=af ((ae FA1).but hb)
 have FB1:=af (h6)
 clear h6 hb
 go_wp2_with fail
 refine (ae RAH _ _ _ (ae HB) (ae FA1) (ae FB1)).mono ?_
 rintro e w71 ⟨rfl,hb⟩
 replace HB:=af ((ae HB).trans' hb)
 replace RX:=af ((ae RX).but hb)
 replace RY:=af ((ae RY).but hb)
 clear hb FA1 FB1 RAH
 go_wp2_with fail
 refine (ae PLAH _ (ae HB)).mono ?_
 rintro e w52 ⟨va2,rfl,h5,hb⟩
 replace HB:=af ((ae HB).trans' hb)
 replace RX:=af ((ae RX).but hb)
 replace RY:=af ((ae RY).but hb)
 have FA2:=af (h5)
 clear h5 hb
 go_wp2_with fail
 refine (ae PLBH _ (ae HB)).mono ?_
 rintro e w62 ⟨vb2,rfl,h6,hb⟩
 replace HB:=af ((ae HB).trans' hb)
 replace RX:=af ((ae RX).but hb)
 replace RY:=af ((ae RY).but hb)
 replace FA2:=af ((ae FA2).but hb)
 have FB2:=af (h6)
 clear h6 hb
 go_wp2_with fail
 refine (ae BEH _ _ _ (ae HB) (ae FA2) (ae FB2)).mono ?_
 rintro e w72 ⟨rfl,hb⟩
 replace HB:=af ((ae HB).trans' hb)
 replace RX:=af ((ae RX).but hb)
 replace RY:=af ((ae RY).but hb)
 clear hb FA2 FB2 BEH PLAH PLBH
 go_wp2_with fail
 refine (ae TE1H _ (ae HB)).mono ?_
 rintro e w8 ⟨rfl,hb⟩
 replace HB:=af ((ae HB).trans' hb)
 replace RX:=af ((ae RX).but hb)
 replace RY:=af ((ae RY).but hb)
 clear hb TE1H
 go_wp2_with fail
 refine (ae TE2H _ (ae HB)).mono ?_
 rintro e w9 ⟨rfl,hb⟩
 replace HB:=af ((ae HB).trans' hb)
 replace RX:=af ((ae RX).but hb)
 replace RY:=af ((ae RY).but hb)
 clear hb TE2H
 go_wp2_with fail
 refine (ae RALH _ _ _ (ae RX) (ae RY)).mono ?_
 rintro e wb ⟨rfl,hb⟩
 replace HB:=af ((ae HB).trans' hb)
 replace RX:=af ((ae RX).but hb)
 replace RY:=af ((ae RY).but hb)
 clear hb RALH
 go_wp2_with fail
 refine (ae RRAH _ _ _ (ae RX) (ae RY)).mono ?_
 rintro e wc ⟨rfl,hb⟩
 replace HB:=af ((ae HB).trans' hb)
 replace RX:=af ((ae RX).but hb)
 replace RY:=af ((ae RY).but hb)
 clear hb RRAH
 go_wp2_with fail
 refine (ae TE3H _ (ae HB)).mono ?_
 rintro e wa ⟨rfl,hb⟩
 replace HB:=af ((ae HB).trans' hb)
 clear hb TE3H
 go_wp2
 go_ret
 exact⟨rfl,ae HB⟩))
theorem zur (aa ab:Option Addr) (na ca nb cb:Nat) (fs gs:List Rat) (w:World) (hna:na≤60∨201<na∧na≤230) (hnb:nb≤60∨201<nb∧nb≤230) (b2:Bool) (f1 f2:Int) (ev1 ev2 ev3:Value) (hl1:¬ 40<na) (hl2:¬ 40<nb) (LIA:∀ W,But [] w W→Calls prog 15 #[.slice aa na ca] W fun e w'=>∃ v,e=.returned v∧zn w' v fs∧But [] W w') (LIB:∀ W,But [] w W→Calls prog 15 #[.slice ab nb cb] W fun e w'=>∃ v,e=.returned v∧zn w' v gs∧But [] W w') (LCA:∀ W v,zn W v fs→Calls prog 29 #[v] W fun e w'=>e=.returned (.int .i64 0)∧But [] W w') (LCB:∀ W v,zn W v gs→Calls prog 29 #[v] W fun e w'=>e=.returned (.int .i64 0)∧But [] W w') (PLA:∀ W,But [] w W→Calls prog 18 #[.slice aa na ca] W fun e w'=>∃ v,e=.returned v∧av w' v fs∧But [] W w') (PLB:∀ W,But [] w W→Calls prog 18 #[.slice ab nb cb] W fun e w'=>∃ v,e=.returned v∧av w' v gs∧But [] W w') (AL:∀ W va vb,But [] w W→av W va fs→av W vb gs→Calls prog 30 #[va,vb] W fun e w'=>e=.returned (.tuple #[.bool false,.int .i64 f1,ev1])∧But [] W w') (RA:∀ W va vb,But [] w W→av W va fs→av W vb gs→Calls prog 31 #[va,vb] W fun e w'=>e=.returned (.tuple #[.bool b2,.int .i64 f2,ev2])∧But [] W w') (TE1:∀ W,But [] w W→Calls prog 10 #[ev1] W fun e w'=>e=.returned (.int .i64 0)∧But [] W w') (TE2:∀ W,But [] w W→Calls prog 10 #[ev2] W fun e w'=>e=.returned (.int .i64 0)∧But [] W w') (BE:∀ W va vb,But [] w W→av W va fs→av W vb gs→Calls prog 32 #[va,vb] W fun e w'=>e=.returned (.tuple #[.slice none 0 0,ev3])∧But [] W w') (TE3:∀ W,But [] w W→Calls prog 10 #[ev3] W fun e w'=>e=.returned (.int .i64 8)∧But [] W w') (RAL:∀ W va vb,zn W va fs→zn W vb gs→Calls prog 33 #[va,vb] W fun e w'=>e=.returned (.tuple #[.bool false,.int .i64 f1])∧But [] W w') (RRA:∀ W va vb,zn W va fs→zn W vb gs→Calls prog 34 #[va,vb] W fun e w'=>e=.returned (.tuple #[.bool b2,.int .i64 f2])∧But [] W w') :
   Calls prog 6 #[.slice aa na ca,.slice ab nb cb] w fun e w'=>e=.returned (.bool true)∧But [] w w':=by(
 have LIAH:=af LIA
 have LIBH:=af LIB
 have LCAH:=af LCA
 have LCBH:=af LCB
 have PLAH:=af PLA
 have PLBH:=af PLB
 have ALH:=af AL
 have RAH:=af RA
 have TE1H:=af TE1
 have TE2H:=af TE2
 have BEH:=af BE
 have TE3H:=af TE3
 have RALH:=af RAL
 have RRAH:=af RRA
 clear LIA LIB LCA LCB PLA PLB AL RA TE1 TE2 BE TE3 RAL RRA
 have q2:¬ 60<na:=by omega
 have q3:¬ 230<na:=by omega
 have r2:¬ 60<nb:=by omega
 have r3:¬ 230<nb:=by omega
 clear hna hnb
 have hb2:(b2 != b2)=false:=by simp
 have hf1:(f1 != f1)=false:=by simp
 have hf2:(f2 != f2)=false:=by simp
 have HB:=af (But.refl [] w)
 go_enter func6,ntmps6
 go_wp2_with fail
 refine (ae LIAH _ (ae HB)).mono ?_
 rintro e w1 ⟨v1,rfl,h1,hb⟩
 replace HB:=af ((ae HB).trans' hb)
 have RX:=af (h1)
 clear h1 hb LIAH
 go_wp2_with fail
 refine (ae LIBH _ (ae HB)).mono ?_
 rintro e w2 ⟨v2,rfl,h2,hb⟩
 replace HB:=af ((ae HB).trans' hb)
 replace RX:=af ((ae RX).but hb)
 have RY:=af (h2)
 clear h2 hb LIBH
 go_wp2_with fail
 refine (ae LCAH _ _ (ae RX)).mono ?_
 rintro e w3 ⟨rfl,hb⟩
 replace HB:=af ((ae HB).trans' hb)
 replace RX:=af ((ae RX).but hb)
 replace RY:=af ((ae RY).but hb)
 clear hb LCAH
 go_wp2_with fail
 refine (ae LCBH _ _ (ae RY)).mono ?_
 rintro e w4 ⟨rfl,hb⟩
 replace HB:=af ((ae HB).trans' hb)
 replace RX:=af ((ae RX).but hb)
 replace RY:=af ((ae RY).but hb)
 clear hb LCBH
 go_wp2_with fail
 refine (ae PLAH _ (ae HB)).mono ?_
 rintro e w50 ⟨va0,rfl,h5,hb⟩
 replace HB:=af ((ae HB).trans' hb)
 replace RX:=af ((ae RX).but hb)
 replace RY:=af ((ae RY).but hb)
 have FA0:=af (h5)
 clear h5 hb
 go_wp2_with fail
 refine (ae PLBH _ (ae HB)).mono ?_
 rintro e w60 ⟨vb0,rfl,h6,hb⟩
 replace HB:=af ((ae HB).trans' hb)
 replace RX:=af ((ae RX).but hb)
 replace RY:=af ((ae RY).but hb)
 replace FA0:=af ((ae FA0).but hb)
 have FB0:=af (h6)
 clear h6 hb
 go_wp2_with fail
 refine (ae ALH _ _ _ (ae HB) (ae FA0) (ae FB0)).mono ?_
 rintro e w70 ⟨rfl,hb⟩
 replace HB:=af ((ae HB).trans' hb)
 replace RX:=af ((ae RX).but hb)
 replace RY:=af ((ae RY).but hb)
 clear hb FA0 FB0 ALH
 go_wp2_with fail
 refine (ae PLAH _ (ae HB)).mono ?_
 rintro e w51 ⟨va1,rfl,h5,hb⟩
 replace HB:=af ((ae HB).trans' hb)
 replace RX:=af ((ae RX).but hb)
 replace RY:=af ((ae RY).but hb)
 have FA1:=af (h5)
 clear h5 hb
 go_wp2_with fail
 refine (ae PLBH _ (ae HB)).mono ?_
 rintro e w61 ⟨vb1,rfl,h6,hb⟩
 replace HB:=af ((ae HB).trans' hb)
 replace RX:=af ((ae RX).but hb)
 replace RY:=af ((ae RY).but hb)
 replace FA1:=af ((ae FA1).but hb)
 have FB1:=af (h6)
 clear h6 hb
 go_wp2_with fail
 refine (ae RAH _ _ _ (ae HB) (ae FA1) (ae FB1)).mono ?_
 rintro e w71 ⟨rfl,hb⟩
 replace HB:=af ((ae HB).trans' hb)
 replace RX:=af ((ae RX).but hb)
 replace RY:=af ((ae RY).but hb)
 clear hb FA1 FB1 RAH
 go_wp2_with fail
 refine (ae PLAH _ (ae HB)).mono ?_
 rintro e w52 ⟨va2,rfl,h5,hb⟩
 replace HB:=af ((ae HB).trans' hb)
 replace RX:=af ((ae RX).but hb)
 replace RY:=af ((ae RY).but hb)
 have FA2:=af (h5)
 clear h5 hb
 go_wp2_with fail
 refine (ae PLBH _ (ae HB)).mono ?_
 rintro e w62 ⟨vb2,rfl,h6,hb⟩
 replace HB:=af ((ae HB).trans' hb)
 replace RX:=af ((ae RX).but hb)
 replace RY:=af ((ae RY).but hb)
 replace FA2:=af ((ae FA2).but hb)
 have FB2:=af (h6)
 clear h6 hb
 go_wp2_with fail
 refine (ae BEH _ _ _ (ae HB) (ae FA2) (ae FB2)).mono ?_
 rintro e w72 ⟨rfl,hb⟩
 replace HB:=af ((ae HB).trans' hb)
 replace RX:=af ((ae RX).but hb)
 replace RY:=af ((ae RY).but hb)
 clear hb FA2 FB2 BEH PLAH PLBH
 go_wp2_with fail
 refine (ae TE1H _ (ae HB)).mono ?_
 rintro e w8 ⟨rfl,hb⟩
 replace HB:=af ((ae HB).trans' hb)
 replace RX:=af ((ae RX).but hb)
 replace RY:=af ((ae RY).but hb)
 clear hb TE1H
 go_wp2_with fail
 refine (ae TE2H _ (ae HB)).mono ?_
 rintro e w9 ⟨rfl,hb⟩
 replace HB:=af ((ae HB).trans' hb)
 replace RX:=af ((ae RX).but hb)
 replace RY:=af ((ae RY).but hb)
 clear hb TE2H
 go_wp2_with fail
 refine (ae RALH _ _ _ (ae RX) (ae RY)).mono ?_
 rintro e wb ⟨rfl,hb⟩
 replace HB:=af ((ae HB).trans' hb)
 replace RX:=af ((ae RX).but hb)
 replace RY:=af ((ae RY).but hb)
 clear hb RALH
 go_wp2_with fail
 refine (ae RRAH _ _ _ (ae RX) (ae RY)).mono ?_
 rintro e wc ⟨rfl,hb⟩
 replace HB:=af ((ae HB).trans' hb)
 replace RX:=af ((ae RX).but hb)
 replace RY:=af ((ae RY).but hb)
 clear hb RRAH
 go_wp2_with fail
 refine (ae TE3H _ (ae HB)).mono ?_
 rintro e wa ⟨rfl,hb⟩
 replace HB:=af ((ae HB).trans' hb)
 clear hb TE3H
 go_wp2
 go_ret
 exact⟨rfl,ae HB⟩)
theorem zut (aa ab:Option Addr) (na ca nb cb:Nat) (fs gs:List Rat) (w:World) (hna:na≤60∨201<na∧na≤230) (hnb:nb≤60∨201<nb∧nb≤230) (b2:Bool) (f1 f2:Int) (ev1 ev2:Value) (nb0:Nat) (M:Nat→List Rat) (T:Nat→List ByteArray) (hl1:¬ 40<na) (hl2:¬ 40<nb) (LIA:∀ W,But [] w W→Calls prog 15 #[.slice aa na ca] W fun e w'=>∃ v,e=.returned v∧zn w' v fs∧But [] W w') (LIB:∀ W,But [] w W→Calls prog 15 #[.slice ab nb cb] W fun e w'=>∃ v,e=.returned v∧zn w' v gs∧But [] W w') (LCA:∀ W v,zn W v fs→Calls prog 29 #[v] W fun e w'=>e=.returned (.int .i64 0)∧But [] W w') (LCB:∀ W v,zn W v gs→Calls prog 29 #[v] W fun e w'=>e=.returned (.int .i64 0)∧But [] W w') (PLA:∀ W,But [] w W→Calls prog 18 #[.slice aa na ca] W fun e w'=>∃ v,e=.returned v∧av w' v fs∧But [] W w') (PLB:∀ W,But [] w W→Calls prog 18 #[.slice ab nb cb] W fun e w'=>∃ v,e=.returned v∧av w' v gs∧But [] W w') (AL:∀ W va vb,But [] w W→av W va fs→av W vb gs→Calls prog 30 #[va,vb] W fun e w'=>e=.returned (.tuple #[.bool true,.int .i64 f1,ev1])∧But [] W w') (RA:∀ W va vb,But [] w W→av W va fs→av W vb gs→Calls prog 31 #[va,vb] W fun e w'=>e=.returned (.tuple #[.bool b2,.int .i64 f2,ev2])∧But [] W w') (TE1:∀ W,But [] w W→Calls prog 10 #[ev1] W fun e w'=>e=.returned (.int .i64 0)∧But [] W w') (TE2:∀ W,But [] w W→Calls prog 10 #[ev2] W fun e w'=>e=.returned (.int .i64 0)∧But [] W w') (BE:∀ W va vb,But [] w W→av W va fs→av W vb gs→Calls prog 32 #[va,vb] W fun e w'=>∃ v,e=.returned (.tuple #[v,.nilIface])∧zcr w' v nb0 M∧But [] W w') (RAL:∀ W va vb,zn W va fs→zn W vb gs→Calls prog 33 #[va,vb] W fun e w'=>e=.returned (.tuple #[.bool true,.int .i64 f1])∧But [] W w') (RRA:∀ W va vb,zn W va fs→zn W vb gs→Calls prog 34 #[va,vb] W fun e w'=>e=.returned (.tuple #[.bool b2,.int .i64 f2])∧But [] W w') (RB:∀ W va vb,zn W va fs→zn W vb gs→Calls prog 38 #[va,vb] W fun e w'=>∃ v,e=.returned v∧zcn w' v nb0 M∧But [] W w') (TP:∀ W v,But [] w W→zcr W v nb0 M→Calls prog 36 #[v] W fun e w'=>∃ v',e=.returned v'∧zne w' v' nb0 T∧But [] W w') (TR:∀ W v,zcn W v nb0 M→Calls prog 37 #[v] W fun e w'=>∃ v',e=.returned v'∧zne w' v' nb0 T∧But [] W w') (SR:∀ W v1 v2,zne W v1 nb0 T→zne W v2 nb0 T→Calls prog 35 #[v1,v2] W fun e w'=>e=.returned (.bool true)∧But [] W w') :
   Calls prog 6 #[.slice aa na ca,.slice ab nb cb] w fun e w'=>e=.returned (.bool true)∧But [] w w':=by(
 have LIAH:=af LIA
 have LIBH:=af LIB
 have LCAH:=af LCA
 have LCBH:=af LCB
 have PLAH:=af PLA
 have PLBH:=af PLB
 have ALH:=af AL
 have RAH:=af RA
 have TE1H:=af TE1
 have TE2H:=af TE2
 have BEH:=af BE
 have RALH:=af RAL
 have RRAH:=af RRA
 have RBH:=af RB
 have TPH:=af TP
 have TRH:=af TR
 have SRH:=af SR
 clear LIA LIB LCA LCB PLA PLB AL RA TE1 TE2 BE RAL RRA RB TP TR SR
 have q2:¬ 60<na:=by omega
 have q3:¬ 230<na:=by omega
 have r2:¬ 60<nb:=by omega
 have r3:¬ 230<nb:=by omega
 clear hna hnb
 have hb2:(b2 != b2)=false:=by simp
 have hf1:(f1 != f1)=false:=by simp
 have hf2:(f2 != f2)=false:=by simp
 have HB:=af (But.refl [] w)
 go_enter func6,ntmps6
 go_wp2_with fail
 refine (ae LIAH _ (ae HB)).mono ?_
 rintro e w1 ⟨v1,rfl,h1,hb⟩
 replace HB:=af ((ae HB).trans' hb)
 have RX:=af (h1)
 clear h1 hb LIAH
 go_wp2_with fail
 refine (ae LIBH _ (ae HB)).mono ?_
 rintro e w2 ⟨v2,rfl,h2,hb⟩
 replace HB:=af ((ae HB).trans' hb)
 replace RX:=af ((ae RX).but hb)
 have RY:=af (h2)
 clear h2 hb LIBH
 go_wp2_with fail
 refine (ae LCAH _ _ (ae RX)).mono ?_
 rintro e w3 ⟨rfl,hb⟩
 replace HB:=af ((ae HB).trans' hb)
 replace RX:=af ((ae RX).but hb)
 replace RY:=af ((ae RY).but hb)
 clear hb LCAH
 go_wp2_with fail
 refine (ae LCBH _ _ (ae RY)).mono ?_
 rintro e w4 ⟨rfl,hb⟩
 replace HB:=af ((ae HB).trans' hb)
 replace RX:=af ((ae RX).but hb)
 replace RY:=af ((ae RY).but hb)
 clear hb LCBH
 go_wp2_with fail
 refine (ae PLAH _ (ae HB)).mono ?_
 rintro e w50 ⟨va0,rfl,h5,hb⟩
 replace HB:=af ((ae HB).trans' hb)
 replace RX:=af ((ae RX).but hb)
 replace RY:=af ((ae RY).but hb)
 have FA0:=af (h5)
 clear h5 hb
 go_wp2_with fail
 refine (ae PLBH _ (ae HB)).mono ?_
 rintro e w60 ⟨vb0,rfl,h6,hb⟩
 replace HB:=af ((ae HB).trans' hb)
 replace RX:=af ((ae RX).but hb)
 replace RY:=af ((ae RY).but hb)
 replace FA0:=af ((ae FA0).but hb)
 have FB0:=af (h6)
 clear h6 hb
 go_wp2_with fail
 refine (ae ALH _ _ _ (ae HB) (ae FA0) (ae FB0)).mono ?_
 rintro e w70 ⟨rfl,hb⟩
 replace HB:=af ((ae HB).trans' hb)
 replace RX:=af ((ae RX).but hb)
 replace RY:=af ((ae RY).but hb)
 clear hb FA0 FB0 ALH
 go_wp2_with fail
 refine (ae PLAH _ (ae HB)).mono ?_
 rintro e w51 ⟨va1,rfl,h5,hb⟩
 replace HB:=af ((ae HB).trans' hb)
 replace RX:=af ((ae RX).but hb)
 replace RY:=af ((ae RY).but hb)
 have FA1:=af (h5)
 clear h5 hb
 go_wp2_with fail
 refine (ae PLBH _ (ae HB)).mono ?_
 rintro e w61 ⟨vb1,rfl,h6,hb⟩
 replace HB:=af ((ae HB).trans' hb)
 replace RX:=af ((ae RX).but hb)
 replace RY:=af ((ae RY).but hb)
 replace FA1:=af ((ae FA1).but hb)
 have FB1:=af (h6)
 clear h6 hb
 go_wp2_with fail
 refine (ae RAH _ _ _ (ae HB) (ae FA1) (ae FB1)).mono ?_
 rintro e w71 ⟨rfl,hb⟩
 replace HB:=af ((ae HB).trans' hb)
 replace RX:=af ((ae RX).but hb)
 replace RY:=af ((ae RY).but hb)
 clear hb FA1 FB1 RAH
 go_wp2_with fail
 refine (ae PLAH _ (ae HB)).mono ?_
 rintro e w52 ⟨va2,rfl,h5,hb⟩
 replace HB:=af ((ae HB).trans' hb)
 replace RX:=af ((ae RX).but hb)
 replace RY:=af ((ae RY).but hb)
 have FA2:=af (h5)
 clear h5 hb
 go_wp2_with fail
 refine (ae PLBH _ (ae HB)).mono ?_
 rintro e w62 ⟨vb2,rfl,h6,hb⟩
 replace HB:=af ((ae HB).trans' hb)
 replace RX:=af ((ae RX).but hb)
 replace RY:=af ((ae RY).but hb)
 replace FA2:=af ((ae FA2).but hb)
 have FB2:=af (h6)
 clear h6 hb
 go_wp2_with fail
 refine (ae BEH _ _ _ (ae HB) (ae FA2) (ae FB2)).mono ?_
 rintro e w72 ⟨vm,rfl,h7,hb⟩
 replace HB:=af ((ae HB).trans' hb)
 replace RX:=af ((ae RX).but hb)
 replace RY:=af ((ae RY).but hb)
 have FM:=af (h7)
 clear h7 hb FA2 FB2 BEH PLAH PLBH
 go_wp2_with fail
 refine (ae TE1H _ (ae HB)).mono ?_
 rintro e w8 ⟨rfl,hb⟩
 replace HB:=af ((ae HB).trans' hb)
 replace RX:=af ((ae RX).but hb)
 replace RY:=af ((ae RY).but hb)
 replace FM:=af ((ae FM).but hb)
 clear hb TE1H
 go_wp2_with fail
 refine (ae TE2H _ (ae HB)).mono ?_
 rintro e w9 ⟨rfl,hb⟩
 replace HB:=af ((ae HB).trans' hb)
 replace RX:=af ((ae RX).but hb)
 replace RY:=af ((ae RY).but hb)
 replace FM:=af ((ae FM).but hb)
 clear hb TE2H
 go_wp2_with fail
 refine (ae RALH _ _ _ (ae RX) (ae RY)).mono ?_
 rintro e wb ⟨rfl,hb⟩
 replace HB:=af ((ae HB).trans' hb)
 replace RX:=af ((ae RX).but hb)
 replace RY:=af ((ae RY).but hb)
 replace FM:=af ((ae FM).but hb)
 clear hb RALH
 go_wp2_with fail
 refine (ae RRAH _ _ _ (ae RX) (ae RY)).mono ?_
 rintro e wc ⟨rfl,hb⟩
 replace HB:=af ((ae HB).trans' hb)
 replace RX:=af ((ae RX).but hb)
 replace RY:=af ((ae RY).but hb)
 replace FM:=af ((ae FM).but hb)
 clear hb RRAH
 go_wp2_with fail
 refine (ae TPH _ _ (ae HB) (ae FM)).mono ?_
 rintro e wd ⟨t1,rfl,h8,hb⟩
 replace HB:=af ((ae HB).trans' hb)
 replace RX:=af ((ae RX).but hb)
 replace RY:=af ((ae RY).but hb)
 have T1:=af (h8)
 clear h8 hb FM TPH
 go_wp2_with fail
 refine (ae RBH _ _ _ (ae RX) (ae RY)).mono ?_
 rintro e we ⟨vr,rfl,h9,hb⟩
 replace HB:=af ((ae HB).trans' hb)
 replace T1:=af ((ae T1).but hb)
 have RM:=af (h9)
 clear h9 hb RX RY RBH
 go_wp2_with fail
 refine (ae TRH _ _ (ae RM)).mono ?_
 rintro e wf ⟨t2,rfl,h10,hb⟩
 replace HB:=af ((ae HB).trans' hb)
 replace T1:=af ((ae T1).but hb)
 have T2:=af (h10)
 clear h10 hb RM TRH
 go_wp2_with fail
 refine (ae SRH _ _ _ (ae T1) (ae T2)).mono ?_
 rintro e wg ⟨rfl,hb⟩
 replace HB:=af ((ae HB).trans' hb)
 clear hb T1 T2 SRH
 go_wp2
 go_ret
 exact⟨rfl,ae HB⟩)
theorem zus (aa ab:Option Addr) (na ca nb cb:Nat) (w:World) (h:(60<na∧na≤201)∨(60<nb∧nb≤201)∨230<na∨230<nb) :
   Calls prog 6 #[.slice aa na ca,.slice ab nb cb] w fun e w'=>e=.returned (.bool true)∧But [] w w':=by(
 have A:(na≤60∧¬ 60<na∧¬ 230<na)∨(60<na∧na≤201∧¬ 230<na)∨(60<na∧¬ na≤201∧230<na)∨(60<na∧¬ na≤201∧¬ 230<na):=by omega
 have B:(nb≤60∧¬ 60<nb∧¬ 230<nb)∨(60<nb∧nb≤201∧¬ 230<nb)∨(60<nb∧¬ nb≤201∧230<nb)∨(60<nb∧¬ nb≤201∧¬ 230<nb):=by omega
 go_enter func6,ntmps6
 rcases A with ⟨a1,a2,a3⟩|⟨a1,a2,a3⟩|⟨a1,a2,a3⟩|⟨a1,a2,a3⟩ <;> rcases B with ⟨c1,c2,c3⟩|⟨c1,c2,c3⟩|⟨c1,c2,c3⟩|⟨c1,c2,c3⟩
 all_goals first
  | (exfalso;omega)
  | (go_wp2;go_ret;exact⟨rfl,But.refl _ _⟩))
end Go.Proofs.YtagmkkiagjmimaaGreatDoor
