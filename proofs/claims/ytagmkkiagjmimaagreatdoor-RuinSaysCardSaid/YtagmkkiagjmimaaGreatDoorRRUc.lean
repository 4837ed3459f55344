import Derived.Test.YtagmkkiagjmimaaGreatDoorRID
import Derived.Test.YtagmkkiagjmimaaGreatDoorRRLs
namespace Go.Proofs.YtagmkkiagjmimaaGreatDoor
open Go.Proofs.Tryz
open Go.RowKit
set_option maxHeartbeats 64000000
set_option maxRecDepth 100000
set_option linter.unusedVariables false
structure qo (w:World) (g n:Nat) (S:Nat→Prop) (F:Nat→Rat):Prop where
 told:∀ i,i<n→S i→∃ b,w.cell? ⟨g,i,none⟩=some (.pointer (some ⟨b,0,none⟩))∧zi w b (F i)
 cell:∀ i,i<n→∃ q,w.cell? ⟨g,i,none⟩=some (.pointer q)
 loose:∀ j,w.frozen? ⟨g,j,none⟩=false
 pos:0<n
theorem qo.but {w w':World} {g n:Nat} {S:Nat→Prop} {F:Nat→Rat} (h:qo w g n S F) (hb:But [] w w'):qo w' g n S F :=
 ⟨fun i hi hs=>by
  obtain⟨b,h1,h2⟩:=h.told i hi hs
  exact⟨b,hb.ag h1 (by simp),h2.but hb⟩,fun i hi=>(h.cell i hi).elim fun q hq=>⟨q,hb.ag hq (by simp)⟩,fun j=>by
  obtain⟨q,hq⟩:=h.cell 0 h.pos
  exact (hb.frozen (p:=⟨g,j,none⟩) (show g<_ from ai hq) (by simp)).trans (h.loose j),h.pos⟩
theorem qo.mono {w:World} {g n:Nat} {S S':Nat→Prop} {F F':Nat→Rat} (h:qo w g n S F) (hs:∀ i,i<n→S' i→S i∧F i=F' i):qo w g n S' F' :=
 ⟨fun i hi h'=>by
  obtain⟨h1,h2⟩:=hs i hi h'
  obtain⟨b,h3,h4⟩:=h.told i hi h1
  exact⟨b,h3,by rw[← h2];exact h4⟩,h.cell,h.loose,h.pos⟩
theorem qo.beside {w w':World} {g n g2:Nat} {S:Nat→Prop} {F:Nat→Rat} (h:qo w g n S F) (hb:But [g2] w w') (hn:g≠g2) (hq:∃ q,w.cell? ⟨g2,0,none⟩=some (.pointer q)):qo w' g n S F:=by(
obtain⟨q,hq⟩:=hq
exact⟨fun i hi hs=>by
 obtain⟨b,h1,h2⟩:=h.told i hi hs
 exact⟨b,hb.ag h1 (by simpa using hn),h2.znc hb hq (zgc _)⟩,fun i hi=>(h.cell i hi).elim fun q hq=>⟨q,hb.ag hq (by simpa using hn)⟩,fun j=>by
 obtain⟨q,hq⟩:=h.cell 0 h.pos
 exact (hb.frozen (p:=⟨g,j,none⟩) (show g<_ from ai hq) (by simpa using hn)).trans (h.loose j),h.pos⟩)
theorem zcx (w:World) (g i:Nat) (v:Value):But [g] w (w.setCell ⟨g,i,none⟩ v):=(But.refl [g] w).setCell (by simp) v
theorem qo.put {w:World} {g n i b:Nat} {S:Nat→Prop} {F:Nat→Rat} {f:Rat} (h:qo w g n S F) (hi:i<n) (hb:zi w b f):qo (w.setCell ⟨g,i,none⟩ (.pointer (some ⟨b,0,none⟩))) g n (fun j=>j=i∨S j) (fun j=>if j=i then f else F j):=by(
have hB:=zcx w g i (.pointer (some ⟨b,0,none⟩))
obtain⟨q0,hq0⟩:=h.cell 0 h.pos
obtain⟨qi,hqi⟩:=h.cell i hi
have at_:(w.setCell ⟨g,i,none⟩ (.pointer (some ⟨b,0,none⟩))).cell? ⟨g,i,none⟩=some (.pointer (some ⟨b,0,none⟩)):=by
 rw[zgx]
 have e:=World.cell?_setCells_in g [Value.pointer (some ⟨b,0,none⟩)] i w (fun j hj=>by
  have:j=0:=by simpa using hj
  subst this
  rw[Nat.add_zero,hqi];rfl) 0 (by simp)
 rw[Nat.add_zero] at e
 simpa using e
have off_:∀ j,j≠i→(w.setCell ⟨g,i,none⟩ (.pointer (some ⟨b,0,none⟩))).cell? ⟨g,j,none⟩=w.cell? ⟨g,j,none⟩:=fun j hj=>by
 rw[zgx]
 exact World.cell?_setCells_out g _ _ _ _ (fun _ _=>by
  rcases Nat.lt_or_ge j i with h | h
  ·exact .inl h
  ·exact .inr (by simp;omega))
refine⟨fun j hj hs=>?_,fun j hj=>?_,fun j=>by rw[zgx,World.frozen?_setCells];exact h.loose j,h.pos⟩
·(
by_cases e:j=i
·subst e
 exact⟨b,at_,by rw[if_pos rfl];exact hb.znc hB hq0 (zgc _)⟩
·rcases hs with h' | h'
 ·exact absurd h' e
 ·obtain⟨b',h1,h2⟩:=h.told j hj h'
  exact⟨b',by rw[off_ j e];exact h1,by rw[if_neg e];exact h2.znc hB hq0 (zgc _)⟩)
·by_cases e:j=i
 ·subst e;exact⟨_,at_⟩
 ·rw[off_ j e];exact h.cell j hj)
theorem qo.made (w:World) (n:Nat) (hn:0<n) (F:Nat→Rat) (t:TypeId):qo (w.alloc (.cells (madeCells #[.pointer none] n) t)) w.heap.size n (fun _=>False) F :=
 ⟨fun _ _ h=>h.elim,fun i hi=>⟨none,by
  rw[World.cell?_alloc_new]
  rw[qdj _ n i hi]⟩,fun j=>by simp,hn⟩
theorem zrg (a:Act) (w:World) (d t1 t2:Nat) (u:TypeId) (ps:String) (ed:Array Edge) (gd:Option (Nat × Bool)) (b off n c k o':Nat) (ho:off+k=o') (hk:k<n) (h1:a.eval (.tmp t1)=.slice (some ⟨b,off,none⟩) n c) (h2:a.eval (.tmp t2)=.int .i64 (k:Int)) :
  (execOp a.eval { dst:=some d,op:=Op.indexAddr 42 (.tmp t1) (.tmp t2),type:=u,pos:=ps,after:=ed,guard:=gd }).run prog w=.ok (.value (.pointer (some ⟨b,o',none⟩))) w:=by(
subst ho
unfold execOp
simp only[h1,h2]
go_simp)
theorem zzu (a:Act) (w:World) (d t:Nat) (u:TypeId) (ps:String) (ed:Array Edge) (gd:Option (Nat × Bool)) (b o:Nat) (v:Value) (h1:a.eval (.tmp t)=.pointer (some ⟨b,o,none⟩)) (hc:w.cell? ⟨b,o,none⟩=some v) :
  (execOp a.eval { dst:=some d,op:=Op.load 37 (.tmp t),type:=u,pos:=ps,after:=ed,guard:=gd }).run prog w=.ok (.value v) w:=by(
unfold execOp
simp only[h1]
go_simp)
theorem qky (a:Act) (w:World) (d t0 t1:Nat) (u:TypeId) (ps:String) (ed:Array Edge) (gd:Option (Nat × Bool)) (z0 z1:Value) (h0:a.eval (.tmp t0)=z0) (h1:a.eval (.tmp t1)=z1) :
  (execOp a.eval { dst:=some d,op:=Op.call { callee:=Callee.value (Operand.func 28),args:=#[Operand.tmp t0,Operand.tmp t1],argTypes:=#[37,37] },type:=u,pos:=ps,after:=ed,guard:=gd }).run prog w=.ok (.enter 28 #[z0,z1]) w:=by(
unfold execOp
go_simp
rw[← h0,← h1]
simp[Act.eval])
theorem qkx (a:Act) (w:World) (d t0 t1:Nat) (u:TypeId) (ps:String) (ed:Array Edge) (gd:Option (Nat × Bool)) (z0 z1:Value) (h0:a.eval (.tmp t0)=z0) (h1:a.eval (.tmp t1)=z1) :
  (execOp a.eval { dst:=some d,op:=Op.call { callee:=Callee.value (Operand.func 82),args:=#[Operand.tmp t0,Operand.tmp t1],argTypes:=#[37,37] },type:=u,pos:=ps,after:=ed,guard:=gd }).run prog w=.ok (.enter 82 #[z0,z1]) w:=by(
unfold execOp
go_simp
rw[← h0,← h1]
simp[Act.eval])
theorem qkw (a:Act) (w:World) (t1 t2:Nat) (u:TypeId) (ps:String) (ed:Array Edge) (b o:Nat) (q:Option Addr) (u0:Value) (h1:a.eval (.tmp t1)=.pointer (some ⟨b,o,none⟩)) (h2:a.eval (.tmp t2)=.pointer q) (hc:w.cell? ⟨b,o,none⟩=some u0) (fz:w.frozen? ⟨b,o,none⟩=false) :
  (execOp a.eval { dst:=none,op:=Op.store 37 (.tmp t1) (.tmp t2),type:=u,pos:=ps,after:=ed,guard:=none }).run prog w=.ok .skip (w.setCell ⟨b,o,none⟩ (.pointer q)):=by(
unfold execOp
simp only[h1,h2]
go_simp)
def qmu:Oper:=⟨some 81,.move (.tmp 13),42, "risk.go:92",#[],none⟩
def qmt:Oper:=⟨some 82,.move (.tmp 14),3, "risk.go:92",#[],none⟩
def qms:Oper:=⟨some 83,.move (.tmp 13),42, "risk.go:92",#[],none⟩
def qmr:Oper:=⟨some 84,.move (.tmp 14),3, "risk.go:92",#[],none⟩
def qmq:Oper:=⟨some 85,.indexAddr 42 (.tmp 83) (.tmp 84),0, "risk.go:92",#[⟨2,.data⟩,⟨3,.data⟩],none⟩
def qmp:Oper:=⟨some 86,.load 37 (.tmp 85),37, "risk.go:92",#[⟨4,.data⟩],none⟩
def qmo:Oper:=⟨some 87,.move (.tmp 16),37, "risk.go:92",#[],none⟩
def qmn:Oper:=⟨some 88,.move (.tmp 10),42, "risk.go:92",#[],none⟩
def qmm:Oper:=⟨some 89,.move (.tmp 17),3, "risk.go:92",#[],none⟩
def qml:Oper:=⟨some 90,.indexAddr 42 (.tmp 88) (.tmp 89),0, "risk.go:92",#[⟨7,.data⟩,⟨8,.data⟩],none⟩
def qgk:Oper:=⟨some 91,.load 37 (.tmp 90),37, "risk.go:92",#[⟨9,.data⟩],none⟩
def qgj:Oper:=⟨some 92,.call { callee:=.value (.func 28),args:=#[.tmp 87,.tmp 91],argTypes:=#[37,37] },37, "risk.go:92",#[⟨6,.data⟩,⟨10,.data⟩],none⟩
def qgi:Oper:=⟨some 93,.call { callee:=.value (.func 82),args:=#[.tmp 86,.tmp 92],argTypes:=#[37,37] },37, "risk.go:92",#[⟨5,.data⟩,⟨11,.data⟩,⟨11,.chain⟩],none⟩
def qgh:Oper:=⟨some 94,.indexAddr 42 (.tmp 81) (.tmp 82),0, "risk.go:92",#[⟨0,.data⟩,⟨1,.data⟩,⟨0,.phase⟩,⟨1,.phase⟩,⟨2,.phase⟩,⟨3,.phase⟩,⟨4,.phase⟩,⟨5,.phase⟩,⟨6,.phase⟩,⟨7,.phase⟩,⟨8,.phase⟩,⟨9,.phase⟩,⟨10,.phase⟩,⟨11,.phase⟩,⟨12,.phase⟩],none⟩
def qgg:Oper:=⟨none,.store 37 (.tmp 94) (.tmp 93),0, "risk.go:92",#[⟨13,.data⟩,⟨12,.data⟩,⟨12,.chain⟩,⟨0,.phase⟩,⟨1,.phase⟩,⟨2,.phase⟩,⟨3,.phase⟩,⟨4,.phase⟩,⟨5,.phase⟩,⟨6,.phase⟩,⟨7,.phase⟩,⟨8,.phase⟩,⟨9,.phase⟩,⟨10,.phase⟩,⟨11,.phase⟩,⟨12,.phase⟩],none⟩
def zaw:Array Oper:=#[qmu,qmt,qms,qmr,qmq,qmp,qmo,qmn,qmm,qml,qgk,qgj,qgi,qgh,qgg]
structure zfg (W0:World) (g13:Nat) (g10:Nat) (n:Nat) (k:Nat) (dd:Nat) (ba:Nat) (bp:Nat) (bd:Nat) (r1:Rat) (r2:Rat) (x:Nat) (y:Nat) (b11:Bool) (b12:Bool) (w:World):Prop where
 mem:But [] W0 w
 f11:b11=true→zi w x r1
 f12:b12=true→zi w y r2
theorem zfg.but {W0:World} {g13:Nat} {g10:Nat} {n:Nat} {k:Nat} {dd:Nat} {ba:Nat} {bp:Nat} {bd:Nat} {r1:Rat} {r2:Rat} {x:Nat} {y:Nat} {b11 b12:Bool} {w w':World} (h:zfg W0 g13 g10 n k dd ba bp bd r1 r2 x y b11 b12 w) (hb:But [] w w'):zfg W0 g13 g10 n k dd ba bp bd r1 r2 x y b11 b12 w' :=
 { mem:=h.mem.trans' hb,f11:=fun e=>(h.f11 e).but hb,f12:=fun e=>(h.f12 e).but hb }
theorem zfg.s11 {W0:World} {g13:Nat} {g10:Nat} {n:Nat} {k:Nat} {dd:Nat} {ba:Nat} {bp:Nat} {bd:Nat} {r1:Rat} {r2:Rat} {x:Nat} {y:Nat} {b11 b12:Bool} {w:World} (h:zfg W0 g13 g10 n k dd ba bp bd r1 r2 x y b11 b12 w) (x':Nat) (hf:zi w x' r1):zfg W0 g13 g10 n k dd ba bp bd r1 r2 x' y true b12 w :=
 { mem:=h.mem,f11:=fun _=>hf,f12:=h.f12 }
theorem zfg.s12 {W0:World} {g13:Nat} {g10:Nat} {n:Nat} {k:Nat} {dd:Nat} {ba:Nat} {bp:Nat} {bd:Nat} {r1:Rat} {r2:Rat} {x:Nat} {y:Nat} {b11 b12:Bool} {w:World} (h:zfg W0 g13 g10 n k dd ba bp bd r1 r2 x y b11 b12 w) (y':Nat) (hf:zi w y' r2):zfg W0 g13 g10 n k dd ba bp bd r1 r2 x y' b11 true w :=
 { mem:=h.mem,f11:=h.f11,f12:=fun _=>hf }
def zdm (i:Nat):Nat:=match i with
 | 0=>81
 | 1=>82
 | 2=>83
 | 3=>84
 | 4=>85
 | 5=>86
 | 6=>87
 | 7=>88
 | 8=>89
 | 9=>90
 | 10=>91
 | 11=>92
 | 12=>93
 | 13=>94
 | _=>81
def zne (i:Nat):Bool:=match i with
 | 14=>false
 | _=>true
def qmk (g13:Nat) (g10:Nat) (n:Nat) (k:Nat) (dd:Nat) (ba:Nat) (bp:Nat) (bd:Nat) (r1:Rat) (r2:Rat) (x:Nat) (y:Nat) (i:Nat):Value:=match i with
 | 0=>.slice (some ⟨g13,0,none⟩) n n
 | 1=>.int .i64 (k:Int)
 | 2=>.slice (some ⟨g13,0,none⟩) n n
 | 3=>.int .i64 (k:Int)
 | 4=>.pointer (some ⟨g13,k,none⟩)
 | 5=>.pointer (some ⟨ba,0,none⟩)
 | 6=>.pointer (some ⟨bp,0,none⟩)
 | 7=>.slice (some ⟨g10,0,none⟩) n n
 | 8=>.int .i64 (dd:Int)
 | 9=>.pointer (some ⟨g10,dd,none⟩)
 | 10=>.pointer (some ⟨bd,0,none⟩)
 | 11=>.pointer (some ⟨x,0,none⟩)
 | 12=>.pointer (some ⟨y,0,none⟩)
 | 13=>.pointer (some ⟨g13,k,none⟩)
 | _=>undef
theorem zff:zei zaw [(4,2),(4,3),(5,4),(9,7),(9,8),(10,9),(11,6),(11,10),(12,5),(12,11),(13,0),(13,1),(13,2),(13,3),(13,4),(13,5),(13,6),(13,7),(13,8),(13,9),(13,10),(13,11),(13,12),(14,0),(14,1),(14,2),(14,3),(14,4),(14,5),(14,6),(14,7),(14,8),(14,9),(14,10),(14,11),(14,12),(14,13)]=true:=by kernel_rfl
theorem qcc:∀ i j,i<15→j<15→zne i=true→zne j=true→zdm i=zdm j→i=j:=fun i j hi hj=>(by decide:∀ i,i<15→∀ j,j<15→zne i=true→zne j=true→zdm i=zdm j→i=j) i hi j hj
theorem zle (id:Nat) (Q:Exit→Act→World→Prop) (base:Act) (W0:World) (g13:Nat) (g10:Nat) (n:Nat) (k:Nat) (dd:Nat) (ba:Nat) (bp:Nat) (bd:Nat) (r1:Rat) (r2:Rat) (hs:94<base.tmps.size) (e13:base.eval (.tmp 13)=.slice (some ⟨g13,0,none⟩) n n) (e14:base.eval (.tmp 14)=.int .i64 (k:Int)) (e16:base.eval (.tmp 16)=.pointer (some ⟨bp,0,none⟩)) (e10:base.eval (.tmp 10)=.slice (some ⟨g10,0,none⟩) n n) (e17:base.eval (.tmp 17)=.int .i64 (dd:Int))
  (hk:k<n) (hd:dd<n) (ca:W0.cell? ⟨g13,k,none⟩=some (.pointer (some ⟨ba,0,none⟩))) (cd:W0.cell? ⟨g10,dd,none⟩=some (.pointer (some ⟨bd,0,none⟩))) (fz:W0.frozen? ⟨g13,k,none⟩=false) (MU:∀ w,But [] W0 w→Calls prog 28 #[.pointer (some ⟨bp,0,none⟩),.pointer (some ⟨bd,0,none⟩)] w fun e w'=>∃ b,e=.returned (.pointer (some ⟨b,0,none⟩))∧zi w' b r1∧But [] w w') (AD:∀ w x,But [] W0 w→zi w x r1→Calls prog 82 #[.pointer (some ⟨ba,0,none⟩),.pointer (some ⟨x,0,none⟩)] w fun e w'=>∃ b,e=.returned (.pointer (some ⟨b,0,none⟩))∧zi w' b r2∧But [] w w')
  (hQ:∀ (x:Nat) (y:Nat) w1,zfg W0 g13 g10 n k dd ba bp bd r1 r2 x y true true w1→Q .normal (bi base [(81,.slice (some ⟨g13,0,none⟩) n n),(82,.int .i64 (k:Int)),(83,.slice (some ⟨g13,0,none⟩) n n),(84,.int .i64 (k:Int)),(85,.pointer (some ⟨g13,k,none⟩)),(86,.pointer (some ⟨ba,0,none⟩)),(87,.pointer (some ⟨bp,0,none⟩)),(88,.slice (some ⟨g10,0,none⟩) n n),(89,.int .i64 (dd:Int)),(90,.pointer (some ⟨g10,dd,none⟩)),(91,.pointer (some ⟨bd,0,none⟩)),(92,.pointer (some ⟨x,0,none⟩)),(93,.pointer (some ⟨y,0,none⟩)),(94,.pointer (some ⟨g13,k,none⟩))]) (w1.setCell ⟨g13,k,none⟩ (.pointer (some ⟨y,0,none⟩)))) :
  (Code.region id zaw true).wp prog Q base W0:=by(
have hT:∀ i,i<15→zne i=true→zdm i<base.tmps.size:=fun i hi _=>by
 have h:zdm i≤94:=by revert i;decide
 omega
refine zms (by kernel_rfl) (dx (by kernel_rfl)) (zlv (by kernel_rfl)) (fun (N:(Nat) × (Nat)) d w=>∃ w1,zfg W0 g13 g10 n k dd ba bp bd r1 r2 N.1 N.2 (d 11) (d 12) w1∧(d 14=false→w=w1)∧(d 14=true→w=(w1.setCell ⟨g13,k,none⟩ (.pointer (some ⟨N.2,0,none⟩))))) (fun N=>qmk g13 g10 n k dd ba bp bd r1 r2 N.1 N.2) zdm zne 15 (by kernel_rfl) qcc hT (0,0) ⟨_,{ mem:=(But.refl _ _).drew,f11:=fun h=>by simp at h,f12:=fun h=>by simp at h },fun _=>rfl,fun h=>by simp at h⟩ ?_ ?_
·(
intro N d i o a w K hi ho hdi hcl hH he hdep hK
have hD:=zso zff ho (fun j=>d j=true∧(zne j=true→a.eval (.tmp (zdm j))=qmk g13 g10 n k dd ba bp bd r1 r2 N.1 N.2 j)) hdep
have e13':=(he 13 (fun j hj _ _=>(by decide:∀ j,j<15→(13:Nat)≠zdm j) j hj)).trans e13
have e14':=(he 14 (fun j hj _ _=>(by decide:∀ j,j<15→(14:Nat)≠zdm j) j hj)).trans e14
have e16':=(he 16 (fun j hj _ _=>(by decide:∀ j,j<15→(16:Nat)≠zdm j) j hj)).trans e16
have e10':=(he 10 (fun j hj _ _=>(by decide:∀ j,j<15→(10:Nat)≠zdm j) j hj)).trans e10
have e17':=(he 17 (fun j hj _ _=>(by decide:∀ j,j<15→(17:Nat)≠zdm j) j hj)).trans e17
have:i=0∨i=1∨i=2∨i=3∨i=4∨i=5∨i=6∨i=7∨i=8∨i=9∨i=10∨i=11∨i=12∨i=13∨i=14:=by omega
rcases this with rfl|rfl|rfl|rfl|rfl|rfl|rfl|rfl|rfl|rfl|rfl|rfl|rfl|rfl|rfl
·obtain rfl:=so (show zaw[0]? =some qmu from rfl) ho
 exact al (bz a w _ _ _ _ _ _ _ e13') (hK N _ _ (fun _=>rfl) (fun _ _ _ _=>rfl) hH)
·obtain rfl:=so (show zaw[1]? =some qmt from rfl) ho
 exact al (bz a w _ _ _ _ _ _ _ e14') (hK N _ _ (fun _=>rfl) (fun _ _ _ _=>rfl) hH)
·obtain rfl:=so (show zaw[2]? =some qms from rfl) ho
 exact al (bz a w _ _ _ _ _ _ _ e13') (hK N _ _ (fun _=>rfl) (fun _ _ _ _=>rfl) hH)
·obtain rfl:=so (show zaw[3]? =some qmr from rfl) ho
 exact al (bz a w _ _ _ _ _ _ _ e14') (hK N _ _ (fun _=>rfl) (fun _ _ _ _=>rfl) hH)
·obtain rfl:=so (show zaw[4]? =some qmq from rfl) ho
 exact al (zrg a w _ _ _ _ _ _ _ g13 (0) (n) (n) (k) (k) (by omega) hk ((hD 2 (by simp)).2 rfl) ((hD 3 (by simp)).2 rfl)) (hK N _ _ (fun _=>rfl) (fun _ _ _ _=>rfl) hH)
·(
obtain rfl:=so (show zaw[5]? =some qmp from rfl) ho
have hs0:d 14=false:=(hcl.not zff (i:=14) (j:=5) (by simp) hdi)
obtain⟨w1,hP,h1,h2⟩:=hH
obtain rfl:=h1 hs0
have hW:=hP.mem
exact al (zzu a w _ _ _ _ _ _ g13 (k) _ ((hD 4 (by simp)).2 rfl) (hW.ag ca (by simp))) (hK N _ _ (fun _=>rfl) (fun _ _ _ _=>rfl) ⟨_,hP,h1,h2⟩))
·obtain rfl:=so (show zaw[6]? =some qmo from rfl) ho
 exact al (bz a w _ _ _ _ _ _ _ e16') (hK N _ _ (fun _=>rfl) (fun _ _ _ _=>rfl) hH)
·obtain rfl:=so (show zaw[7]? =some qmn from rfl) ho
 exact al (bz a w _ _ _ _ _ _ _ e10') (hK N _ _ (fun _=>rfl) (fun _ _ _ _=>rfl) hH)
·obtain rfl:=so (show zaw[8]? =some qmm from rfl) ho
 exact al (bz a w _ _ _ _ _ _ _ e17') (hK N _ _ (fun _=>rfl) (fun _ _ _ _=>rfl) hH)
·obtain rfl:=so (show zaw[9]? =some qml from rfl) ho
 exact al (zrg a w _ _ _ _ _ _ _ g10 (0) (n) (n) (dd) (dd) (by omega) hd ((hD 7 (by simp)).2 rfl) ((hD 8 (by simp)).2 rfl)) (hK N _ _ (fun _=>rfl) (fun _ _ _ _=>rfl) hH)
·(
obtain rfl:=so (show zaw[10]? =some qgk from rfl) ho
have hs0:d 14=false:=(hcl.not zff (i:=14) (j:=10) (by simp) hdi)
obtain⟨w1,hP,h1,h2⟩:=hH
obtain rfl:=h1 hs0
have hW:=hP.mem
exact al (zzu a w _ _ _ _ _ _ g10 (dd) _ ((hD 9 (by simp)).2 rfl) (hW.ag cd (by simp))) (hK N _ _ (fun _=>rfl) (fun _ _ _ _=>rfl) ⟨_,hP,h1,h2⟩))
·(
obtain rfl:=so (show zaw[11]? =some qgj from rfl) ho
have hs0:d 14=false:=(hcl.not zff (i:=14) (j:=11) (by simp) hdi)
obtain⟨w1,hP,h1,h2⟩:=hH
obtain rfl:=h1 hs0
have hW:=hP.mem
exact ax (qky a w _ _ _ _ _ _ _ _ _ ((hD 6 (by simp)).2 rfl) ((hD 10 (by simp)).2 rfl)) (R:=fun w' u=>∃ v,u=.pointer (some ⟨v,0,none⟩)∧(zi w' v r1)∧But [] w w') ((MU w hW).mono fun e w' ⟨v,he,hf,hb⟩=>⟨_,he,v,rfl,hf,hb⟩) (fun u w' ⟨v,hu,hf,hb⟩=>hK (v,N.2) _ _ (fun _=>hu) (fun j hj _ hdj=>by
 have:j=0∨j=1∨j=2∨j=3∨j=4∨j=5∨j=6∨j=7∨j=8∨j=9∨j=10∨j=11∨j=12∨j=13∨j=14:=by omega
 rcases this with rfl|rfl|rfl|rfl|rfl|rfl|rfl|rfl|rfl|rfl|rfl|rfl|rfl|rfl|rfl <;> first|rfl | exact absurd (hdi.symm.trans hdj) (by simp)) ⟨_,((hP.but hb).s11 v hf),fun _=>rfl,fun h=>absurd (hs0.symm.trans h) (by simp)⟩))
·(
obtain rfl:=so (show zaw[12]? =some qgi from rfl) ho
have hs0:d 14=false:=(hcl.not zff (i:=14) (j:=12) (by simp) hdi)
obtain⟨w1,hP,h1,h2⟩:=hH
obtain rfl:=h1 hs0
have hW:=hP.mem
have t11:d 11=true:=(hD 11 (by simp)).1
exact ax (qkx a w _ _ _ _ _ _ _ _ _ ((hD 5 (by simp)).2 rfl) ((hD 11 (by simp)).2 rfl)) (R:=fun w' u=>∃ v,u=.pointer (some ⟨v,0,none⟩)∧(zi w' v r2)∧But [] w w') ((AD w N.1 hW (hP.f11 t11)).mono fun e w' ⟨v,he,hf,hb⟩=>⟨_,he,v,rfl,hf,hb⟩) (fun u w' ⟨v,hu,hf,hb⟩=>hK (N.1,v) _ _ (fun _=>hu) (fun j hj _ hdj=>by
 have:j=0∨j=1∨j=2∨j=3∨j=4∨j=5∨j=6∨j=7∨j=8∨j=9∨j=10∨j=11∨j=12∨j=13∨j=14:=by omega
 rcases this with rfl|rfl|rfl|rfl|rfl|rfl|rfl|rfl|rfl|rfl|rfl|rfl|rfl|rfl|rfl <;> first|rfl | exact absurd (hdi.symm.trans hdj) (by simp)) ⟨_,((hP.but hb).s12 v hf),fun _=>rfl,fun h=>absurd (hs0.symm.trans h) (by simp)⟩))
·obtain rfl:=so (show zaw[13]? =some qgh from rfl) ho
 exact al (zrg a w _ _ _ _ _ _ _ g13 (0) (n) (n) (k) (k) (by omega) hk ((hD 0 (by simp)).2 rfl) ((hD 1 (by simp)).2 rfl)) (hK N _ _ (fun _=>rfl) (fun _ _ _ _=>rfl) hH)
·(
obtain rfl:=so (show zaw[14]? =some qgg from rfl) ho
obtain⟨w1,hP,h1,h2⟩:=hH
obtain rfl:=h1 hdi
have hW:=hP.mem
have t11:d 11=true:=(hD 11 (by simp)).1
have t12:d 12=true:=(hD 12 (by simp)).1
exact xh (qkw a w _ _ _ _ _ g13 (k) _ _ ((hD 13 (by simp)).2 rfl) ((hD 12 (by simp)).2 rfl) (hW.ag ca (by simp)) ((hW.frozen (p:=⟨g13,k,none⟩) (show g13<_ from ai ca) (by simp)).trans fz)) (hK N undef _ (fun h=>absurd h (by decide)) (fun _ _ _ _=>rfl) ⟨w,hP,fun h=>absurd h (by rw[xg];simp),fun _=>rfl⟩)))
·(
intro N d w hd hH
obtain⟨w1,hP,h1,h2⟩:=hH
rw[h2 (hd 14 (by omega))]
rw[hd 11 (by omega),hd 12 (by omega)] at hP
exact hQ N.1 N.2 w1 hP))
theorem zol (wx:World) (n:Nat) (h:n<1000000):(Instr.makeSlice 42 (.int .i64 (n:Int)) (.int .i64 (n:Int))).run prog wx=.ok (.slice (some ⟨wx.heap.size,0,none⟩) n n) (wx.alloc (.cells (madeCells #[.pointer none] n) 37)):=by(
obtain⟨ti,hi,hz,hs,hbt⟩:=zvp
have hmk:=run_make (P:=prog) wx 42 37 ti _ underlying42 hi hz .i64 .i64 (n:Int) (n:Int) (by omega) (by omega) (by rw[hbt];omega) (by omega)
rw[hs,Int.toNat_natCast,Nat.mul_one] at hmk
exact hmk)
theorem qin (fs:List Rat) (c top t s k:Nat) (hp:∀ f ∈ fs,0≤f) (h1:sgR (atR fs) fs.length=1) (hU:(wd 4294967296 (jf 1 fs^(t+1))).length≤1000) (hk:k≤fs.length):ja (gpR (atR fs) fs.length c top t s k) 1000∧ja (gnR (atR fs) fs.length c top (t+1) s) 1000:=by(
have hz:∀ x,x<fs.length→∃ z:Int,atR fs x*(((jf 1 fs:Nat):Int):Rat)=((z:Int):Rat):=fun x hx=>by
 have e:atR fs x=fs[x]:=by unfold atR;rw[List.getElem?_eq_getElem hx];rfl
 rw[e]
 exact zjx fs 1 _ (List.getElem_mem hx)
have hpos:=zgi fs 1 (by omega)
have hK:0<jf 1 fs^(t+1):=Nat.pow_pos hpos
have ra:=qar hp
have one:∀ k,k≤fs.length→ja (gpR (atR fs) fs.length c top t s k) 1000:=fun k hk=>by
 obtain⟨z,hz⟩:=qio (atR fs) fs.length c top (jf 1 fs) hz t s (qiq _ _ _ _ _ hz t) k hk
 obtain⟨r1,r2⟩:=zvt (atR fs) fs.length c top ra h1 t s (zvu _ _ _ _ ra h1 t) k hk
 exact qdp _ _ _ hK r1 r2 z hz hU
refine⟨one k hk,?_⟩
rw[zgf]
split
·exact (ja.int (z:=0) (by decide)).mono (by omega)
·exact one _ (Nat.le_refl _))
theorem zrm (v:Value) (fs:List Rat) (st inc ys:Nat) (w:World) (hr:xw w v fs) (hn1:1≤fs.length) (hn:fs.length≤41) (hst:st≤60) (hi:inc≤20) (hys:ys≤16) (hp:∀ f ∈ fs,0≤f) (h1:sgR (atR fs) fs.length=1) (lf:∀ f ∈ fs,Len f 1) (hU:∀ t,t≤ys→(wd 4294967296 (jf 1 fs^t)).length≤1000) :
  Calls prog 20 #[.int .i64 (st:Int),.int .i64 (inc:Int),v,.int .i64 (ys:Int)] w fun e w'=>∃ zb,e=.returned (.pointer (some ⟨zb,0,none⟩))∧zi w' zb (((1:Int):Rat)-phi (atR fs) fs.length inc ys st)∧But [] w w':=by(
have hF:∀ i,i<fs.length→fs[i]? = some (atR fs i):=fun i hi=>by unfold atR;rw[List.getElem?_eq_getElem hi];rfl
obtain⟨top,htop⟩:∃ top,top=st+inc*ys:=⟨_,rfl⟩
have hiy:inc*ys≤20*16:=Nat.mul_le_mul hi hys
have ht380:top≤380:=by omega
have hphi:=qip (atR fs) fs.length inc top h1 ys st (by omega)
have hphi0:gnR (atR fs) fs.length inc top ys st=((1:Int):Rat)-phi (atR fs) fs.length inc ys st:=hphi
rw[← hphi0]
have lp:∀ x,x<fs.length→ja (atR fs x) 2:=fun x hx=>by
 have e:atR fs x=fs[x]:=by unfold atR;rw[List.getElem?_eq_getElem hx];rfl
 rw[e]
 exact zdo (lf _ (List.getElem_mem hx))
have lgp:∀ t s k,t+1≤ys→k≤fs.length→ja (gpR (atR fs) fs.length inc top t s k) 1000:=fun t s k ht hk=>(qin fs inc top t s k hp h1 (hU _ ht) hk).1
have lgn:∀ t s,t≤ys→ja (gnR (atR fs) fs.length inc top t s) 1000:=fun t s ht=>by
 cases t with
 | zero=>exact (ja.int (z:=0) (by decide)).mono (by omega)
 | succ t=>exact (qin fs inc top t s 0 hp h1 (hU _ ht) (Nat.zero_le _)).2
obtain⟨m,hm⟩:∃ m,m=inc*ys:=⟨_,rfl⟩
have hw0:wrap64 ((inc:Int)*(ys:Int))=(m:Int):=by
 have e:((inc*ys:Nat):Int)=(inc:Int)*(ys:Int):=Int.natCast_mul _ _
 rw[← e,← hm];unfold wrap64;omega
rw[← hm] at htop hiy
clear hm
obtain⟨N,hN⟩:∃ N,N=top+1:=⟨_,rfl⟩
have hmk0:=fun wx=>zol wx N (by omega)
have hmk:∀ wx,(Instr.makeSlice 42 (.int .i64 ((st:Int)+(m:Int)+1)) (.int .i64 ((st:Int)+(m:Int)+1))).run prog wx=.ok (.slice (some ⟨wx.heap.size,0,none⟩) N N) (wx.alloc (.cells (madeCells #[.pointer none] N) 37)):=fun wx=>by
 rw[show (st:Int)+(m:Int)+1=((N:Nat):Int) by omega];exact hmk0 wx
have hmk2:∀ wx,(Instr.makeSlice 42 (.int .i64 ((top:Int)+1)) (.int .i64 ((top:Int)+1))).run prog wx=.ok (.slice (some ⟨wx.heap.size,0,none⟩) N N) (wx.alloc (.cells (madeCells #[.pointer none] N) 37)):=fun wx=>by
 rw[show (top:Int)+1=((N:Nat):Int) by omega];exact hmk0 wx
have I0:=af (fun W=>zfy 0 W (by omega) (by omega))
obtain⟨a,cap,rfl,hcap,hV⟩:=zeb hr hF
have HV:=af hV
have HLP:=af lp
have HLG:=af lgp
have HLN:=af lgn
have hNt:top<N:=by omega
have hNt2:N≤top+1:=by omega
have hstN:st<N:=by omega
obtain⟨p,hpp⟩:∃ p,p=atR fs:=⟨_,rfl⟩
rw[← hpp] at HV HLP HLG HLN
rw[← hpp]
obtain⟨L,hL⟩:∃ L,L=fs.length:=⟨_,rfl⟩
rw[← hL] at HV HLP HLG HLN hn1 hn hcap
rw[← hL]
clear hV hr hF lp lgp lgn hphi hphi0 h1 hp lf hU hpp hL hiy hmk0 hN
have AB:=af (fun (t s:Nat) (h:top<s+inc)=>show gnR p L inc top (t+1) s=0 by rw[zgf,if_pos h])
have AW:=af (fun (t s:Nat) (h:¬ top<s+inc)=>show gnR p L inc top (t+1) s=gpR p L inc top t s L by rw[zgf,if_neg h])
have AL:=af (fun (t s x:Nat) (h:s+inc<x)=>show gpR p L inc top t s x+p x=gpR p L inc top t s (x+1) by
 show _=gpR p L inc top t s x+(if s+inc<x then p x else _)
 rw[if_pos h])
have AG:=af (fun (t s x:Nat) (h:¬ s+inc<x)=>show gpR p L inc top t s x+p x*gnR p L inc top t (s+inc-x)=gpR p L inc top t s (x+1) by
 show _=gpR p L inc top t s x+(if s+inc<x then p x else _)
 rw[if_neg h])
go_enter func20,ntmps20
go_wp2
have bw0:But [] w (w.alloc (.cells (madeCells #[.pointer none] N) 37)):=(But.refl _ _).alloc _
have R0:qo (w.alloc (.cells (madeCells #[.pointer none] N) 37)) w.heap.size N (fun j=>j<0) (fun _=>0):=(qo.made w N (by omega) (fun _=>0) _).mono (fun i _ h=>absurd h (by omega))
obtain⟨gG,hgG⟩:∃ g,g=w.heap.size:=⟨_,rfl⟩
rw[← hgG] at R0
rw[← hgG]
have HG:Hid (w.heap.size≤gG):=Nat.le_of_eq hgG.symm
generalize w.alloc (.cells (madeCells #[.pointer none] N) 37)=V0 at *
have S0:=af (And.intro R0 bw0)
clear R0 bw0 hgG hmk
rw[show (st:Int)+(m:Int)=(top:Int) by omega]
clear htop hw0
go_loopw [28] (fun i wr=>∃ k:Nat,k≤N∧i=.int .i64 (k:Int)∧Hid (qo wr gG N (fun j=>j<k) (fun _=>0)∧But [] w wr)) (fun i _=>N-(intOf i).toNat)
case atStart=>exact⟨0,Nat.zero_le _,rfl,ae S0⟩
case round =>(
obtain⟨k,hk,rfl,HI⟩:=hrel
rename World=>wr
clear S0
by_cases hlt:k<N
·(
go_wp2_with fail
refine (ae I0 _).mono ?_
rintro e w2 ⟨g2,rfl,h2,hb2⟩
have row:=(ae HI).1.but hb2
obtain⟨q,hq⟩:=row.cell k hlt
have fz:=row.loose k
have NX:Hid (qo (w2.setCell ⟨gG,k,none⟩ (.pointer (some ⟨g2,0,none⟩))) gG N (fun j=>j<k+1) (fun _=>0)∧But [] w (w2.setCell ⟨gG,k,none⟩ (.pointer (some ⟨g2,0,none⟩)))):=⟨(row.put hlt (f:=0) h2).mono (fun i _ h=>⟨by omega,by split <;> rfl⟩),((ae HI).2.trans' hb2).trans (zcx w2 gG k _) (fun x hx=>by simp at hx;subst hx;exact .inr (ae HG))⟩
clear h2 hb2 row HI
go_wp2
exact⟨⟨k+1,by omega,by go_num,ae NX⟩,by simp[intOf];omega⟩)
·(
obtain rfl:k=N:=by omega
have S1:Hid (qo wr gG k (fun _=>True) (gnR p L inc top 0)∧But [] w wr∧w.heap.size≤gG):=⟨(ae HI).1.mono (fun i hi _=>⟨hi,rfl⟩),(ae HI).2,ae HG⟩
clear HI HG
go_wp2
go_loopw [10,12] (fun gv i wr=>∃ (t g:Nat),t≤ys∧i=.int .i64 ((t:Int)+1)∧gv=.slice (some ⟨g,0,none⟩) k k∧Hid (qo wr g k (fun _=>True) (gnR p L inc top t)∧But [] w wr∧w.heap.size≤g)) (fun _ i _=>ys+1-(intOf i).toNat)
case atStart=>exact⟨0,gG,Nat.zero_le _,rfl,rfl,ae S1⟩
case round =>(
obtain⟨t,g,ht,rfl,rfl,HI⟩:=hrel
rename World=>wy
clear S1
by_cases hty:t<ys
·(
have hle:(t:Int)+1≤(ys:Int):=by omega
have bA:But [] wy (wy.alloc (.cells (madeCells #[.pointer none] k) 37)):=(But.refl _ _).alloc _
have R1:qo (wy.alloc (.cells (madeCells #[.pointer none] k) 37)) wy.heap.size k (fun j=>j<0) (gnR p L inc top (t+1)):=(qo.made wy k (by omega) (gnR p L inc top (t+1)) _).mono (fun i _ h=>absurd h (by omega))
have hgl:g<wy.heap.size:=by
 obtain⟨q,hq⟩:=(ae HI).1.cell 0 (by omega)
 exact ai hq
have S2:=af (And.intro R1 (And.intro ((ae HI).1.but bA) ((ae HI).2.1.trans' bA)))
obtain⟨h13,hh13⟩:∃ h,h=wy.heap.size:=⟨_,rfl⟩
rw[← hh13] at S2 hgl
have HN13:Hid (g≠h13∧w.heap.size≤h13):=⟨by omega,by rw[hh13];exact (ae HI).2.1.size⟩
obtain⟨V1,hV1⟩:∃ V,V=wy.alloc (.cells (madeCells #[.pointer none] k) 37):=⟨_,rfl⟩
rw[← hV1] at S2
have HV1:=af hV1
clear hV1 bA R1 HI hgl
go_wp2
rw[← ae HV1,← hh13]
clear HV1 hh13
go_loopw [46] (fun i wr=>∃ h:Nat,h≤k∧i=.int .i64 (h:Int)∧Hid (qo wr h13 k (fun j=>j<h) (gnR p L inc top (t+1))∧qo wr g k (fun _=>True) (gnR p L inc top t)∧But [] w wr)) (fun i _=>k-(intOf i).toNat)
case atStart=>exact⟨0,Nat.zero_le _,rfl,ae S2⟩
case round =>(
obtain⟨h,hh,rfl,HH⟩:=hrel
rename World=>wh
clear S2
by_cases hhk:h<k
·(
go_wp2_with fail
refine (ae I0 _).mono ?_
rintro e w3 ⟨g3,rfl,h3,hb3⟩
have row:=(ae HH).1.but hb3
obtain⟨q,hq⟩:=row.cell h hhk
obtain⟨q0,hq0⟩:=row.cell 0 row.pos
have fz:=row.loose h
have bS:=zcx w3 h13 h (.pointer (some ⟨g3,0,none⟩))
have NX:Hid (qo (w3.setCell ⟨h13,h,none⟩ (.pointer (some ⟨g3,0,none⟩))) h13 k (fun j=>j=h∨j<h) (fun j=>if j=h then ((0:Int):Rat) else gnR p L inc top (t+1) j)∧qo (w3.setCell ⟨h13,h,none⟩ (.pointer (some ⟨g3,0,none⟩))) g k (fun _=>True) (gnR p L inc top t)∧But [] w (w3.setCell ⟨h13,h,none⟩ (.pointer (some ⟨g3,0,none⟩)))):=⟨row.put hhk h3,((ae HH).2.1.but hb3).beside bS (ae HN13).1 ⟨q0,hq0⟩,((ae HH).2.2.trans' hb3).trans bS (fun x hx=>by simp at hx;subst hx;exact .inr (ae HN13).2)⟩
clear h3 hb3 row HH hq0 bS
by_cases hover:top<h+inc
·(
have hov:((h:Int)+(inc:Int) > (top:Int)):=by omega
have NY:Hid (qo (w3.setCell ⟨h13,h,none⟩ (.pointer (some ⟨g3,0,none⟩))) h13 k (fun j=>j<h+1) (gnR p L inc top (t+1))∧qo (w3.setCell ⟨h13,h,none⟩ (.pointer (some ⟨g3,0,none⟩))) g k (fun _=>True) (gnR p L inc top t)∧But [] w (w3.setCell ⟨h13,h,none⟩ (.pointer (some ⟨g3,0,none⟩)))):=⟨(ae NX).1.mono (fun i _ hi=>⟨by omega,by
 by_cases e:i=h
 ·rw[if_pos e,e,ae AB t h hover];rfl
 ·rw[if_neg e]⟩),(ae NX).2⟩
clear NX
go_wp2
exact⟨⟨h+1,by omega,by go_num,ae NY⟩,by simp[intOf];omega⟩)
·(
have hov:¬ ((h:Int)+(inc:Int) > (top:Int)):=by omega
have S3:Hid (qo (w3.setCell ⟨h13,h,none⟩ (.pointer (some ⟨g3,0,none⟩))) h13 k (fun j=>j<h+1) (fun j=>if j=h then gpR p L inc top t h 0 else gnR p L inc top (t+1) j)∧qo (w3.setCell ⟨h13,h,none⟩ (.pointer (some ⟨g3,0,none⟩))) g k (fun _=>True) (gnR p L inc top t)∧But [] w (w3.setCell ⟨h13,h,none⟩ (.pointer (some ⟨g3,0,none⟩)))):=⟨(ae NX).1.mono (fun i _ hi=>⟨by omega,by
 by_cases e:i=h
 ·rw[if_pos e,if_pos e];rfl
 ·rw[if_neg e,if_neg e]⟩),(ae NX).2⟩
clear NX
go_wp2
go_loopw [60] (fun i wr=>∃ x:Nat,x≤L∧i=.int .i64 (x:Int)∧Hid (qo wr h13 k (fun j=>j<h+1) (fun j=>if j=h then gpR p L inc top t h x else gnR p L inc top (t+1) j)∧qo wr g k (fun _=>True) (gnR p L inc top t)∧But [] w wr)) (fun i _=>L-(intOf i).toNat)
case atStart=>exact⟨0,Nat.zero_le _,rfl,ae S3⟩
case round =>(
obtain⟨x,hx,rfl,HX⟩:=hrel
rename World=>wx
clear S3
by_cases hxL:x<L
·(
obtain⟨b,off,gp,rfl,cx,rx⟩:=ae HV wx (ae HX).2.2 x hxL
obtain⟨ba,ca,ra⟩:=(ae HX).1.told h hhk (by omega)
rw[if_pos rfl] at ra
obtain⟨q0,hq0⟩:=(ae HX).1.cell 0 (by omega)
have fz:=(ae HX).1.loose h
-- the row behind a store of what is reached
have stored:∀ (W:World) (y:Nat),But [] wx W→zi W y (gpR p L inc top t h (x+1))→qo (W.setCell ⟨h13,h,none⟩ (.pointer (some ⟨y,0,none⟩))) h13 k (fun j=>j<h+1) (fun j=>if j=h then gpR p L inc top t h (x+1) else gnR p L inc top (t+1) j)∧qo (W.setCell ⟨h13,h,none⟩ (.pointer (some ⟨y,0,none⟩))) g k (fun _=>True) (gnR p L inc top t)∧But [] w (W.setCell ⟨h13,h,none⟩ (.pointer (some ⟨y,0,none⟩))):=fun W y hb hy=>by
 have bS:=zcx W h13 h (.pointer (some ⟨y,0,none⟩))
 refine⟨(((ae HX).1.but hb).put hhk hy).mono (fun i _ hi=>⟨.inr hi,?_⟩),((ae HX).2.1.but hb).beside bS (ae HN13).1 ⟨q0,hb.ag hq0 (by simp)⟩,((ae HX).2.2.trans' hb).trans bS (fun z hz=>by simp at hz;subst hz;exact .inr (ae HN13).2)⟩
 by_cases e:i=h
 ·rw[if_pos e,if_pos e]
 ·rw[if_neg e,if_neg e,if_neg e]
have ST:=af stored
clear stored
by_cases hleft:h+inc<x
·(
have hneg:(h:Int)+(inc:Int)-(x:Int)<0:=by omega
have AD:Hid (Calls prog 82 #[.pointer (some ⟨ba,0,none⟩),.pointer (some ⟨gp,0,none⟩)] wx fun e w'=>∃ zb,e=.returned (.pointer (some ⟨zb,0,none⟩))∧zi w' zb (gpR p L inc top t h (x+1))∧But [] wx w'):=by
 rw[← ae AL t h x hleft]
 exact zlq ba gp _ _ wx ra rx ((ae HLG t h x hty hx).mono (by omega)) ((ae HLP x hxL).mono (by omega))
clear ra rx
go_wp2_with fail
refine (ae AD).mono ?_
rintro e w5 ⟨y5,rfl,h5,hb5⟩
have NZ:=af (ae ST _ _ hb5 h5)
have cb:w5.cell? ⟨h13,h,none⟩=some (.pointer (some ⟨ba,0,none⟩)):=hb5.ag ca (by simp)
have fz5:w5.frozen? ⟨h13,h,none⟩=false:=(hb5.frozen (p:=⟨h13,h,none⟩) (show h13<_ from ai ca) (by simp)).trans fz
clear h5 hb5 AD ST HX ca fz hq0 cx
go_wp2
exact⟨⟨x+1,by omega,by go_num,ae NZ⟩,by simp[intOf];omega⟩)
·(
have hneg:¬ (h:Int)+(inc:Int)-(x:Int)<0:=by omega
obtain⟨d,hd⟩:∃ d:Nat,(h:Int)+(inc:Int)-(x:Int)=(d:Int):=⟨h+inc-x,by omega⟩
have hdk:d<k:=by omega
obtain⟨bd,cd,rd⟩:=(ae HX).2.1.told d hdk trivial
have ed:d=h+inc-x:=by omega
rw[ed] at rd
have lg2:=ae HLN t (h+inc-x) ht
have MU:=af (fun W (hb:But [] wx W)=>zrn gp bd (p x) _ W (rx.but hb) (rd.but hb) ((ae HLP x hxL).mono (by omega)) (lg2.mono (by omega)))
have AD:Hid (∀ W y,But [] wx W→zi W y (p x*gnR p L inc top t (h+inc-x))→Calls prog 82 #[.pointer (some ⟨ba,0,none⟩),.pointer (some ⟨y,0,none⟩)] W fun e w'=>∃ zb,e=.returned (.pointer (some ⟨zb,0,none⟩))∧zi w' zb (gpR p L inc top t h (x+1))∧But [] W w'):=fun W y hb hy=>by
 rw[← ae AG t h x hleft]
 exact zlq ba y _ _ W (ra.but hb) hy ((ae HLG t h x hty hx).mono (by omega)) ((((ae HLP x hxL).mul lg2)).mono (by omega))
have HD:Hid ((h:Int)+(inc:Int)-(x:Int)=(d:Int)):=hd
clear ra rx rd ed lg2 hd
go_wp2
refine zle 23 _ _ wx h13 g k h d ba gp bd (p x*gnR p L inc top t (h+inc-x)) (gpR p L inc top t h (x+1)) (by simp) (by simp[Act.eval]) (by simp[Act.eval]) (by simp[Act.eval]) (by simp[Act.eval]) (by simp[Act.eval,ae HD]) hhk hdk ca cd fz (fun W hb=>ae MU W hb) (fun W y hb hy=>ae AD W y hb hy) ?_
intro y5 z5 w5 hP
simp only[bi,List.foldl_cons,List.foldl_nil,Act.put,List.setIfInBounds_toArray,List.set_cons_zero,List.set_cons_succ]
have NZ:=af (ae ST _ _ hP.mem (hP.f12 rfl))
clear hP MU AD ST HX ca cd fz hq0 cx HD
go_wp2
exact⟨⟨x+1,by omega,by go_num,ae NZ⟩,by simp[intOf];omega⟩))
·(
obtain rfl:x=L:=by omega
have NY:Hid (qo wx h13 k (fun j=>j<h+1) (gnR p x inc top (t+1))∧qo wx g k (fun _=>True) (gnR p x inc top t)∧But [] w wx):=⟨(ae HX).1.mono (fun i _ hi=>⟨hi,by
 by_cases e:i=h
 ·rw[if_pos e,e,ae AW t h hover]
 ·rw[if_neg e]⟩),(ae HX).2⟩
clear HX
go_wp2
exact⟨⟨h+1,by omega,by go_num,ae NY⟩,by simp[intOf];omega⟩))))
·(
obtain rfl:h=k:=by omega
have NT:Hid (qo wh h13 h (fun _=>True) (gnR p L inc top (t+1))∧But [] w wh∧w.heap.size≤h13):=⟨(ae HH).1.mono (fun i hi _=>⟨hi,rfl⟩),(ae HH).2.2,(ae HN13).2⟩
clear HH HN13
go_wp2
exact⟨⟨t+1,h13,by omega,by go_num,rfl,ae NT⟩,by simp[intOf];omega⟩)))
·(
obtain rfl:t=ys:=by omega
have hle:¬ (t:Int)+1≤(t:Int):=by omega
obtain⟨b,cb,rb⟩:=(ae HI).1.told st hstN trivial
have FIN:=af (And.intro rb (ae HI).2.1)
clear rb HI
go_wp2
go_ret
exact⟨b,rfl,ae FIN⟩)))))
set_option maxHeartbeats 16000000
theorem qav (v:Value) (fs:List Rat) (st inc ys:Nat) (w:World) (m:Int) (hv:aq w v fs) (hl:fs.length≤41) (hst:st≤60) (hi:inc≤20) (hys:ys≤6) (lf:∀ f ∈ fs,Len f 1) (hU20:(wd 18446744073709551616 (jf 1 fs)).length≤20) (hk:ol fs=0) (htab:Lib.TabIs prog w "internal/strconv.uint64pow10" .u64 Lib.pow10Tab) (hm:w.cell? ⟨4,0,none⟩=some (.int .i64 m)) :
  Calls prog 17 #[.int .i64 (st:Int),.int .i64 (inc:Int),v,.int .i64 (ys:Int)] w fun e w'=>∃ s x y p,e=.returned (.tuple #[.agg #[.bool s,.int .u64 x,.int .u64 y,.pointer p],.nilIface])∧am w' (.agg #[.bool s,.int .u64 x,.int .u64 y,.pointer p]) (((1:Int):Rat)-phi (atR fs) fs.length inc ys st)∧Len (((1:Int):Rat)-phi (atR fs) fs.length inc ys st) 10000∧But [] w w':=by(
obtain⟨hn0,-,hp,-⟩:=zfn hk
obtain⟨hsum1,hsumN⟩:=zhh hk
have hUpos:=zgi fs 1 (by omega)
obtain⟨U,hUU⟩:∃ U,U=jf 1 fs:=⟨_,rfl⟩
have hway:=zhi hp
obtain⟨e1,e2⟩:=bj (U:Int)
have hphi:=zpx (atR fs) (zdc fs) fs.length inc U (by omega) (by rw[hUU];exact hway) ys st
have lA:Len (lsR (zdc fs) fs.length inc ys st) 1000:=by
 have h3:20*ys≤20*20:=Nat.mul_le_mul_left _ (by omega)
 exact jq _ _ (zni (zdc fs) fs.length inc _ hsumN ys st) (Nat.le_trans (o7 _ ys 20 hU20) (by omega)) (by omega)
have lB:Len (zw (((U:Nat):Int):Rat) ys) 1000:=by
 rw[zfd,hUU]
 have h3:20*ys≤20*20:=Nat.mul_le_mul_left _ (by omega)
 exact jq _ _ (Nat.le_refl _) (Nat.le_trans (o7 _ ys 20 hU20) (by omega)) (by omega)
have hB0:(zw (((U:Nat):Int):Rat) ys).num≠0:=fun h=>by
 have hz:=Rat.num_eq_zero.1 h
 have hpos:=zfc (((U:Nat):Int):Rat) (by
  have:(0:Int)<(U:Int):=by omega
  exact Rat.intCast_pos.2 this) ys
 rw[hz] at hpos
 exact absurd hpos (by decide)
have lQ:Len (phi (atR fs) fs.length inc ys st) 2000:=by
 rw[← hphi]
 exact qaf lA lB hB0 2000 (by omega)
have lR:Len (((1:Int):Rat)-phi (atR fs) fs.length inc ys st) 10000:=zsc ((zct 1 (by decide)).mono (show 1≤1 by omega)) lQ 10000 (by omega)
have F0:=af (fun W=>zgg (st:Int) 60 (by omega) (by omega) (by omega) W)
have F1:=af (fun W=>zgg (inc:Int) 20 (by omega) (by omega) (by omega) W)
have F2:=af (fun W=>zgg (ys:Int) 16 (by omega) (by omega) (by omega) W)
have CK:=af (fun W (h:But [] w W)=>zgm v fs 1 W (hv.but h) hl lf (by omega))
rw[hk] at CK
have YO:=af (fun W (h:But [] w W)=>zwr inc v fs W m 1 (hv.but h) (by omega) lf (by omega) (TabIs.but htab h) (h.ag hm (by simp)))
rw[← hUU] at YO hU20 hsumN
have LAS:Hid (∀ (g:Nat) (s:Bool) (x y:Int) (p:Option Addr) (W:World),am W (.agg #[.bool s,.int .u64 x,.int .u64 y,.pointer p]) (((U:Nat):Int):Rat)→oh W g fs.length (fun i=>fs[i]?.getD 0*(((U:Nat):Int):Rat))→Calls prog 76 #[.agg #[.int .i64 (inc:Int),.bool s,.int .u64 x,.int .u64 y,.pointer p,.slice (some ⟨g,0,none⟩) fs.length fs.length],.int .i64 (st:Int),.int .i64 (ys:Int)] W fun e w'=>∃ v,e=.returned v∧am w' v (lsR (zdc fs) fs.length inc ys st)∧But [] W w'):=fun g s x y p W h1 h2 =>
 zvk inc st ys fs.length g 0 fs.length U s x y p (zdc fs) (atR fs) _ W h1 h2.znr (fun k hk=>by
  rw[List.getElem?_map,List.getElem?_range hk,hway k,hUU];rfl) hn0 hl (Nat.le_refl _) (by omega) hst hi hys (by rw[hUU];exact hway) hsum1 hsumN hU20
have WAY:=af (fun (g:Nat) (s:Bool) (x y:Int) (p:Option Addr) (W:World) (h:am W (.agg #[.bool s,.int .u64 x,.int .u64 y,.pointer p]) (((U:Nat):Int):Rat))=>zpi (inc:Int) s x y p (some ⟨g,0,none⟩) fs.length fs.length U ys W h (by omega) hU20)
rw[← hphi]
rw[← hphi] at lR lQ
have LR:=af lR
have LQ:=af lQ
have LA:=af lA
have LB:=af lB
have HB0:=af hB0
change Hid (Len (((1:Int):Rat)-lsR (zdc fs) fs.length inc ys st/zw (((U:Nat):Int):Rat) ys) 10000) at LR
change Hid (Len (lsR (zdc fs) fs.length inc ys st/zw (((U:Nat):Int):Rat) ys) 2000) at LQ
show Calls prog 17 #[.int .i64 (st:Int),.int .i64 (inc:Int),v,.int .i64 (ys:Int)] w fun e w'=>∃ s x y p,e=.returned (.tuple #[.agg #[.bool s,.int .u64 x,.int .u64 y,.pointer p],.nilIface])∧am w' (.agg #[.bool s,.int .u64 x,.int .u64 y,.pointer p]) (((1:Int):Rat)-lsR (zdc fs) fs.length inc ys st/zw (((U:Nat):Int):Rat) ys)∧Len (((1:Int):Rat)-lsR (zdc fs) fs.length inc ys st/zw (((U:Nat):Int):Rat) ys) 10000∧But [] w w'
clear lR lQ lA lB hB0 hphi e1 e2 hway hsum1 hsumN hp hUpos hU20
generalize lsR (zdc fs) fs.length inc ys st=f1 at *
generalize zw (((U:Nat):Int):Rat) ys=f2 at *
generalize (((U:Nat):Int):Rat)=fU at *
obtain⟨q,cap,rfl,hcap,-⟩:=id hv
have x2:=az.new w false 0 0 none 0 27 (dz _)
have bA:But [] w (w.alloc (.cells #[.bool false,.int .u64 0,.int .u64 0,.pointer none] 27)):=(But.refl _ _).alloc _
have X2:=af x2
have BA:=af bA
generalize fs.length=n at *
have Q2:Hid (w.heap.size≤w.heap.size):=Nat.le_refl _
clear x2 bA hv lf hcap hk htab hm hUU
go_enter func17,ntmps17
go_wp2_with fail
refine (ae F0 _).mono ?_
rintro e w1 ⟨rfl,hb1⟩
have B1:=af ((ae BA).trans' hb1)
have X21:=af ((ae X2).but hb1)
clear hb1 X2 BA F0
go_wp2_with fail
refine (ae F1 _).mono ?_
rintro e w2 ⟨rfl,hb2⟩
have B2:=af ((ae B1).trans' hb2)
have X22:=af ((ae X21).but hb2)
clear hb2 X21 B1 F1
go_wp2_with fail
refine (ae F2 _).mono ?_
rintro e w3 ⟨rfl,hb3⟩
have B3:=af ((ae B2).trans' hb3)
have X23:=af ((ae X22).but hb3)
clear hb3 X22 B2 F2
go_wp2_with fail
refine (ae CK _ (ae B3)).mono ?_
rintro e w4 ⟨rfl,hb4⟩
have B4:=af ((ae B3).trans' hb4)
have X24:=af ((ae X23).but hb4)
clear hb4 X23 B3 CK
rw[show zju 0=.nilIface from rfl]
generalize hg2:w.heap.size=g8 at *
go_wp2_with fail
refine (ae YO _ (ae B4)).mono ?_
rintro e w5 ⟨g,s1,x1,y1,p1,rfl,hf5,hr5,hg51,hg52,hb5⟩
have B5:=af ((ae B4).trans' hb5)
have X25:=af ((ae X24).but hb5)
obtain⟨V,hV⟩:∃ V,V=w5.alloc (.cells #[.int .i64 (inc:Int),.bool s1,.int .u64 x1,.int .u64 y1,.pointer p1,.slice (some ⟨g,0,none⟩) n n] 122):=⟨_,rfl⟩
have bV:But [] w5 V:=by rw[hV];exact (But.refl _ _).alloc _
have YV:Hid (zbd V w5.heap.size (inc:Int) s1 x1 y1 p1 (.slice (some ⟨g,0,none⟩) n n)):=by rw[hV];exact zbd.new _ _ _ _ _ _ _ _
have F5:=af (hf5.but bV)
have R5:=af (hr5.but bV hg52)
have gV:g<V.heap.size:=Nat.lt_of_lt_of_le hg52 bV.size
have B6:=af ((ae B5).trans' bV)
have X26:=af ((ae X25).but bV)
clear hf5 hr5 hb5 B4 X24 YO B5 X25 bV hg51 hg52
go_wp2
rw[← hV]
clear hV
generalize w5.heap.size=g12 at *
refine zlx 6 _ _ V V.heap.size (st:Int) (ys:Int) (inc:Int) s1 x1 y1 p1 (some ⟨g,0,none⟩) n n f1 f2 (by simp) g12 rfl (by simp[Act.eval]) (by simp[Act.eval]) (by simp[Act.eval]) (ae YV) (fun W hb=>ae LAS g s1 x1 y1 p1 W ((ae F5).but hb) ((ae R5).but hb gV)) (fun W hb=>ae WAY g s1 x1 y1 p1 W ((ae F5).but hb)) (fun W hb v u h1 h2=>zvy _ _ _ _ W h1 h2 ((ae LA).mono (by omega)) ((ae LB).mono (by omega)) (ae HB0)) ?_
intro w6 bn v3 v6 v7 v8 v9 v12 s' x' y' p' hb6 hBn hp6 hf6
simp only[bi,List.foldl_cons,List.foldl_nil,Act.put,List.setIfInBounds_toArray,List.set_cons_zero,List.set_cons_succ]
have B7:=af ((ae B6).trans' hb6)
have X27:=af ((ae X26).but hb6)
have P7:=af hp6
have F7:=af hf6
clear hb6 hp6 hf6 F5 R5 B6 X26 YV LAS WAY hBn
go_wp2
obtain⟨ws,wx,FW,CW⟩:=zar 1 (by omega) (by omega)
obtain⟨⟨t2,a2,b2,q2,c2,-⟩,z2⟩:=ae X27
refine zlw 7 _ _ w6 ws wx s' x' y' p' (f1/f2) g8 bn (by simp) (by simp[Act.eval]) c2 z2 (by simp[Act.eval]) (ae P7) CW (fun W hb=>zkx _ _ _ _ W (FW W) ((ae F7).but hb) ((zct 1 (by decide)).mono (by omega)) ((ae LQ).mono (by omega))) ?_
intro w7 s7 x7 y7 p7 hb7 hf7
simp only[bi,List.foldl_cons,List.foldl_nil,Act.put,List.setIfInBounds_toArray,List.set_cons_zero,List.set_cons_succ]
have hP:=aw w7 g8 s7 x7 y7 p7
obtain⟨m0,m1,m2,m3⟩:=mo w7 g8 s7 x7 y7 p7 (c2.but hb7 (by simp))
have hF:But [] w (jc w7 g8 s7 x7 y7 p7):=((ae B7).trans' hb7).trans hP (fun x hx=>by simp at hx;subst hx;exact .inr (by omega))
have hff:=hf7.over (c2.but hb7 (by simp)).1 hP
generalize jc w7 g8 s7 x7 y7 p7=F at *
clear hP hf7 hb7 c2 z2 X27 B7 P7 F7
go_wp2
exact bodyPost_ret (v:=.tuple #[.agg #[.bool s7,.int .u64 x7,.int .u64 y7,.pointer p7],.nilIface]) (by simp[results,results17,go_sem,m0,m1,m2,m3]) rfl ⟨s7,x7,y7,p7,rfl,hff,ae LR,hF⟩)
set_option linter.unusedVariables false
theorem zdr (n m:Int) (b:Bool) (hb:b=decide (0≤n∧n≤m)) (w:World):Calls prog 73 #[.int .i64 n,.int .i64 m] w fun e w'=>e=.returned (.bool b)∧But [] w w':=by(
have bw:But [] w w:=But.refl _ _
by_cases h1:0≤n
·(
by_cases h2:n≤m
·(
obtain rfl:b=true:=by rw[hb];exact decide_eq_true ⟨h1,h2⟩
clear hb
go_enter func73,ntmps73
go_wp2
go_ret
exact⟨rfl,bw⟩)
·(
obtain rfl:b=false:=by rw[hb];exact decide_eq_false (fun h=>h2 h.2)
clear hb
go_enter func73,ntmps73
go_wp2
go_ret
exact⟨rfl,bw⟩))
·(
obtain rfl:b=false:=by rw[hb];exact decide_eq_false (fun h=>h1 h.1)
clear hb
go_enter func73,ntmps73
go_wp2
go_ret
exact⟨rfl,bw⟩))
def ckR (fs:List Rat) (rng:Bool):Int:=if ol fs≠0 then ol fs else if rng=false then 2 else if 41<fs.length then 4 else 0
theorem zde (va:Value) (fs:List Rat) (c:Nat) (rng:Bool) (w:World) (ha:aq w va fs) (hn:fs.length≤1000) (lf:∀ f ∈ fs,Len f c) (hc:c≤100) :
  Calls prog 74 #[va,.bool rng] w fun e w'=>e=.returned (zju (ckR fs rng))∧But [] w w':=by(
have CA:=af (zio va fs c w ha hn lf hc)
obtain⟨q,cap,rfl,-,-⟩:=id ha
obtain⟨ca,hca⟩:∃ ca,ca=ol fs:=⟨_,rfl⟩
obtain⟨z,hz⟩:∃ z,z=ckR fs rng:=⟨_,rfl⟩
have HZ:Hid (z=if ca≠0 then ca else if rng=false then 2 else if 41<fs.length then 4 else 0):=by show _=_;rw[hz,hca];rfl
rw[← hca] at CA
rw[← hz]
clear ha hca hz
generalize fs.length=n at *
go_enter func74,ntmps74
go_wp2_with fail
refine (ae CA).mono ?_
rintro e w1 ⟨rfl,hb1⟩
have B1:=af hb1
clear hb1 CA
by_cases h0:ca=0
·(
subst h0
have HZ2:Hid (z=if rng=false then 2 else if 41<n then 4 else 0):=by show _=_;rw[ae HZ];simp
rw[show zju 0=.nilIface from rfl]
clear HZ
cases rng with
| false =>
 obtain rfl:z=2:=by rw[ae HZ2];rfl
 clear HZ2
 go_wp2
 go_ret
 exact⟨rfl,ae B1⟩
| true =>
 by_cases h41:41<n
 ·obtain rfl:z=4:=by rw[ae HZ2,if_neg (by decide),if_pos h41]
  clear HZ2
  go_wp2
  go_ret
  exact⟨rfl,ae B1⟩
 ·obtain rfl:z=0:=by rw[ae HZ2,if_neg (by decide),if_neg h41]
  clear HZ2
  have h42:¬ n > 41:=h41
  go_wp2
  go_ret
  exact⟨rfl,ae B1⟩)
·(
obtain rfl:z=ca:=by rw[ae HZ,if_pos h0]
obtain⟨ev,hev⟩:∃ ev,ev=zju z:=⟨_,rfl⟩
have hev2:ev=.iface 33 (.int .i64 z):=by rw[hev];unfold zju;rw[if_neg h0]
rw[← hev,hev2]
have HEV:=af (hev2.symm.trans hev)
clear hev hev2 HZ
go_wp2
go_ret
first | exact⟨rfl,ae B1⟩ | exact⟨congrArg _ (ae HEV),ae B1⟩))
theorem zwt (v:Value) (fs:List Rat) (st inc ys:Int) (w:World) (c:Nat) (hv:aq w v fs) (hl:fs.length≤1000) (lf:∀ f ∈ fs,Len f c) (hc:c≤100) (z:Int) (hz:z=ruE fs st inc ys) (hz0:z≠0) :
  Calls prog 17 #[.int .i64 st,.int .i64 inc,v,.int .i64 ys] w fun e w'=>e=.returned (.tuple #[.agg #[.bool false,.int .u64 0,.int .u64 0,.pointer none],.iface 33 (.int .i64 z)])∧But [] w w':=by(
have F0:=af (fun W=>zdr st 60 _ rfl W)
have F1:=af (fun W=>zdr inc 20 _ rfl W)
have F2:=af (fun W=>zdr ys 16 _ rfl W)
have CK:Hid (∀ rng,ckR fs rng=z→∀ W,But [] w W→Calls prog 74 #[v,.bool rng] W fun e w'=>e=.returned (.iface 33 (.int .i64 z))∧But [] W w'):=fun rng h W hb=>by
 have:=zde v fs c rng W (hv.but hb) hl lf hc
 rw[h] at this
 unfold zju at this
 rw[if_neg hz0] at this
 exact this
have RZ:Hid (∀ rng:Bool,rng=decide (0≤st∧st≤60∧0≤inc∧inc≤20∧0≤ys∧ys≤16)→ckR fs rng=z):=fun rng h=>by
 rw[hz]
 unfold ckR ruE
 by_cases hp:0≤st∧st≤60∧0≤inc∧inc≤20∧0≤ys∧ys≤16
 ·rw[decide_eq_true hp] at h
  subst h
  by_cases h2:ol fs=0
  ·simp[h2,hp]
  ·simp[h2]
 ·rw[decide_eq_false hp] at h
  subst h
  by_cases h2:ol fs=0
  ·simp only[h2,ne_eq,not_true_eq_false,if_false,if_true]
   rw[if_pos hp]
  ·simp[h2]
obtain⟨q,cap,rfl,hcap,-⟩:=id hv
have x2:=az.new w false 0 0 none 0 27 (dz _)
have bA:But [] w (w.alloc (.cells #[.bool false,.int .u64 0,.int .u64 0,.pointer none] 27)):=(But.refl _ _).alloc _
have X2:=af x2
have BA:=af bA
generalize fs.length=n at *
have Q2:Hid (w.heap.size≤w.heap.size):=Nat.le_refl _
clear x2 bA hv lf hcap hz
by_cases h1:0≤st∧st≤60
focus(
rw[decide_eq_true h1] at F0
by_cases h2:0≤inc∧inc≤20
focus(
rw[decide_eq_true h2] at F1
obtain⟨b3,hb3⟩:∃ b3,b3=decide (0≤ys∧ys≤16):=⟨_,rfl⟩
rw[← hb3] at F2
have C:=af (ae CK b3 (ae RZ b3 (by rw[hb3];exact decide_eq_decide.2 (by omega))))
clear CK RZ h1 h2 hb3
go_enter func17,ntmps17
go_wp2_with fail
refine (ae F0 _).mono ?_
rintro e w1 ⟨rfl,hb1⟩
have B1:=af ((ae BA).trans' hb1)
have X21:=af ((ae X2).but hb1)
clear hb1 X2 BA F0
go_wp2_with fail
refine (ae F1 _).mono ?_
rintro e w2 ⟨rfl,hb2⟩
have B2:=af ((ae B1).trans' hb2)
have X22:=af ((ae X21).but hb2)
clear hb2 X21 B1 F1
go_wp2_with fail
refine (ae F2 _).mono ?_
rintro e w3 ⟨rfl,hb3⟩
have B3:=af ((ae B2).trans' hb3)
have X23:=af ((ae X22).but hb3)
clear hb3 X22 B2 F2
go_wp2_with fail
refine (ae C _ (ae B3)).mono ?_
rintro e w9 ⟨rfl,hb9⟩
have B9:=af ((ae B3).trans' hb9)
have X29:=af ((ae X23).but hb9)
clear hb9 X23 B3 C)
rotate_left
focus(
rw[decide_eq_false h2] at F1
have C:=af (ae CK false (ae RZ false (decide_eq_false (by omega)).symm))
clear CK RZ h1 h2 F2
go_enter func17,ntmps17
go_wp2_with fail
refine (ae F0 _).mono ?_
rintro e w1 ⟨rfl,hb1⟩
have B1:=af ((ae BA).trans' hb1)
have X21:=af ((ae X2).but hb1)
clear hb1 X2 BA F0
go_wp2_with fail
refine (ae F1 _).mono ?_
rintro e w2 ⟨rfl,hb2⟩
have B2:=af ((ae B1).trans' hb2)
have X22:=af ((ae X21).but hb2)
clear hb2 X21 B1 F1
go_wp2_with fail
refine (ae C _ (ae B2)).mono ?_
rintro e w9 ⟨rfl,hb9⟩
have B9:=af ((ae B2).trans' hb9)
have X29:=af ((ae X22).but hb9)
clear hb9 X22 B2 C))
rotate_left 2
focus(
rw[decide_eq_false h1] at F0
have C:=af (ae CK false (ae RZ false (decide_eq_false (by omega)).symm))
clear CK RZ h1 F1 F2
go_enter func17,ntmps17
go_wp2_with fail
refine (ae F0 _).mono ?_
rintro e w1 ⟨rfl,hb1⟩
have B1:=af ((ae BA).trans' hb1)
have X21:=af ((ae X2).but hb1)
clear hb1 X2 BA F0
go_wp2_with fail
refine (ae C _ (ae B1)).mono ?_
rintro e w9 ⟨rfl,hb9⟩
have B9:=af ((ae B1).trans' hb9)
have X29:=af ((ae X21).but hb9)
clear hb9 X21 B1 C)
all_goals(
generalize hg2:w.heap.size=g2 at *
obtain⟨⟨t2,a2,b2,q2,⟨c0,c1,c2,c3⟩,-⟩,z2⟩:=ae X29
have P2:Hid (P4 w9 g2 t2 a2 b2 q2):=⟨c0,c1,c2,c3⟩
go_wp2
have hP:=aw w9 g2 false 0 0 none
obtain⟨m0,m1,m2,m3⟩:=mo w9 g2 false 0 0 none (ae P2)
have hF:But [] w (jc w9 g2 false 0 0 none):=(ae B9).trans hP (fun x hx=>by simp at hx;subst hx;exact .inr (by omega))
change bodyPost _ _ _ _ _ (jc w9 g2 false 0 0 none)
generalize jc w9 g2 false 0 0 none=F at *
exact bodyPost_ret (v:=.tuple #[.agg #[.bool false,.int .u64 0,.int .u64 0,.pointer none],.iface 33 (.int .i64 z)]) (by simp[results,results17,go_sem,m0,m1,m2,m3]) rfl ⟨rfl,hF⟩))
theorem qfm (v:Value) (fs:List Rat) (inc:Int) (s:Bool) (x y:Int) (p:Option Addr) (w:World) (c:Nat) (hv:aq w v fs) (hl:fs.length≤1000) (lf:∀ f ∈ fs,Len f c) (hc:c≤100) (z:Int) (hz:z=ckR fs (decide (0≤inc∧inc≤20))) (hz0:z≠0) :
  Calls prog 23 #[.int .i64 inc,v,.agg #[.bool s,.int .u64 x,.int .u64 y,.pointer p]] w fun e w'=>e=.returned (.tuple #[.bool false,.iface 33 (.int .i64 z)])∧But [] w w':=by(
have F1:=af (fun W=>zdr inc 20 _ rfl W)
generalize decide (0≤inc∧inc≤20)=rng at *
have CK:Hid (∀ W,But [] w W→Calls prog 74 #[v,.bool rng] W fun e w'=>e=.returned (.iface 33 (.int .i64 z))∧But [] W w'):=fun W hb=>by
 have:=zde v fs c rng W (hv.but hb) hl lf hc
 rw[← hz] at this
 unfold zju at this
 rw[if_neg hz0] at this
 exact this
obtain⟨q,cap,rfl,hcap,-⟩:=id hv
generalize fs.length=n at *
obtain⟨V,hV⟩:∃ V,V=w.alloc (.cells #[.bool s,.int .u64 x,.int .u64 y,.pointer p] 27):=⟨_,rfl⟩
have bV:Hid (But [] w V):=by rw[hV];exact (But.refl _ _).alloc _
have HV:=af hV
clear hv lf hcap hz hV
go_enter func23,ntmps23
go_wp2_with fail
try rw[← ae HV]
refine (ae F1 _).mono ?_
rintro e w1 ⟨rfl,hb1⟩
have B1:=af ((ae bV).trans' hb1)
clear hb1 F1 HV bV
go_wp2_with fail
refine (ae CK _ (ae B1)).mono ?_
rintro e w2 ⟨rfl,hb2⟩
have B2:=af ((ae B1).trans' hb2)
clear hb2 B1 CK
go_wp2
exact bodyPost_ret (v:=.tuple #[.bool false,.iface 33 (.int .i64 z)]) (by simp[results,results23,go_sem]) rfl ⟨rfl,ae B2⟩)
theorem qfl (v:Value) (fs:List Rat) (inc:Int) (r:Rat) (s:Bool) (x y:Int) (p:Option Addr) (w:World) (c:Nat) (hv:aq w v fs) (hl:fs.length≤1000) (lf:∀ f ∈ fs,Len f c) (hc:c≤100) (hz:ckR fs (decide (0≤inc∧inc≤20))=0) (hr:∀ W,am W (.agg #[.bool s,.int .u64 x,.int .u64 y,.pointer p]) r) (lr:Len r 100) (h1:r<((1:Int):Rat)) :
  Calls prog 23 #[.int .i64 inc,v,.agg #[.bool s,.int .u64 x,.int .u64 y,.pointer p]] w fun e w'=>e=.returned (.tuple #[.bool false,.iface 33 (.int .i64 2)])∧But [] w w':=by(
have F1:=af (fun W=>zdr inc 20 _ rfl W)
generalize decide (0≤inc∧inc≤20)=rng at *
have CK:Hid (∀ W,But [] w W→Calls prog 74 #[v,.bool rng] W fun e w'=>e=.returned .nilIface∧But [] W w'):=fun W hb=>by
 have:=zde v fs c rng W (hv.but hb) hl lf hc
 rw[hz] at this
 exact this
obtain⟨ws,wx,FW,CW⟩:=zar 1 (by omega) (by omega)
have HFW:=af FW
have HCW:=af CW
obtain⟨cm,hcm⟩:∃ cm,cm=zbc (r.num*((((1:Int):Rat)).den:Int)) ((((1:Int):Rat)).num*(r.den:Int)):=⟨_,rfl⟩
have hneg:cm<0:=(znx r _ cm hcm).1.2 h1
have HCM:=af hcm
clear hcm FW CW
have HR:=af hr
have LR:=af lr
obtain⟨q,cap,rfl,hcap,-⟩:=id hv
generalize fs.length=n at *
obtain⟨V,hV⟩:∃ V,V=w.alloc (.cells #[.bool s,.int .u64 x,.int .u64 y,.pointer p] 27):=⟨_,rfl⟩
obtain⟨g,hg⟩:∃ g,g=w.heap.size:=⟨_,rfl⟩
have C5:Hid (P4 V g s x y p):=⟨by rw[hV,hg];simp,by rw[hV,hg];simp,by rw[hV,hg];simp,by rw[hV,hg];simp⟩
have bV:Hid (But [] w V):=by rw[hV];exact (But.refl _ _).alloc _
have HV:=af hV
clear hv lf hcap hz hV hr lr
go_enter func23,ntmps23
go_wp2_with fail
rw[← ae HV]
try rw[← hg]
clear HV hg
refine (ae F1 _).mono ?_
rintro e w1 ⟨rfl,hb1⟩
have B1:=af ((ae bV).trans' hb1)
have C51:=af ((ae C5).but hb1 (by simp))
clear hb1 F1 bV C5
go_wp2_with fail
refine (ae CK _ (ae B1)).mono ?_
rintro e w2 ⟨rfl,hb2⟩
have B2:=af ((ae B1).trans' hb2)
have C52:=af ((ae C51).but hb2 (by simp))
clear hb2 B1 CK C51
go_wp2_with fail
refine zhp 4 _ _ w2 s x y p ws wx cm (by simp) g (by simp[Act.eval]) (ae C52) (ae HCW) (fun w' hb=>zcw _ _ r ((1:Int):Rat) w' (ae HR w') (ae HFW w') ((ae LR).mono (by omega)) ((zct 1 (by decide)).mono (by omega)) cm (ae HCM)) ?_
intro w3 hb3
simp only[bi,List.foldl_cons,List.foldl_nil,Act.put,List.setIfInBounds_toArray,List.set_cons_zero,List.set_cons_succ]
rw[decide_eq_true hneg]
have B4:=af ((ae B2).trans' hb3)
clear hb3 B2 C52 HCM HR LR HFW HCW h1
go_wp2
exact bodyPost_ret (v:=.tuple #[.bool false,.iface 33 (.int .i64 2)]) (by simp[results,results23,go_sem]) rfl ⟨rfl,ae B4⟩)
theorem zrr (r:Rat):∀ n,zw r n=r^n
 | 0=>by show (1:Rat)=_;rw[Rat.pow_zero]
 | n+1=>by show zw r n*r=_;rw[zrr r n,Rat.pow_succ]
theorem zxr (v:Value) (fs:List Rat) (inc:Nat) (rb:Nat) (r:Rat) (w:World) (hr:xw w v fs) (hrb:zi w rb r) (hn:fs.length≤41) (hi:inc≤20) (lf:∀ f ∈ fs,Len f 1) (lr:Len r 1) (b:Bool) (hb:b=decide (sgR (fun j=>atR fs j*zw r j) fs.length≤zw r inc)) :
  Calls prog 90 #[.int .i64 (inc:Int),v,.pointer (some ⟨rb,0,none⟩)] w fun e w'=>e=.returned (.bool b)∧But [] w w':=by(
have hF:∀ i,i<fs.length→fs[i]? = some (atR fs i):=fun i hi=>by unfold atR;rw[List.getElem?_eq_getElem hi];rfl
have lp:∀ x,x<fs.length→ja (atR fs x) 2:=fun x hx=>by
 have e:atR fs x=fs[x]:=by unfold atR;rw[List.getElem?_eq_getElem hx];rfl
 rw[e]
 exact zdo (lf _ (List.getElem_mem hx))
have ur:ja r 2:=zdo lr
have lw:∀ k,k≤41→ja (zw r k) 100:=fun k hk=>by
 rw[zrr]
 exact (ur.zcb k).mono (by omega)
have lt:∀ x,x<fs.length→ja (atR fs x*zw r x) 102:=fun x hx=>((lp x hx).mul (lw x (by omega))).mono (by omega)
have ls:∀ k,k≤fs.length→ja (sgR (fun j=>atR fs j*zw r j) k) 10000:=fun k hk=>(zsg (F:=fun j=>atR fs j*zw r j) (c:=102) k (fun i hi=>lt i (by omega))).mono (by
 have:k*(102+1)≤41*103:=Nat.mul_le_mul (by omega) (Nat.le_refl _)
 omega)
have I0:=af (fun W=>zfy 0 W (by omega) (by omega))
have I1:=af (fun W=>zfy 1 W (by omega) (by omega))
have PW:=af (fun W (hb:But [] w W)=>qbs rb r inc W (hrb.but hb) (ur.mono (by omega)) (by omega))
have CM:Hid (∀ W x y,zi W x (sgR (fun j=>atR fs j*zw r j) fs.length)→zi W y (r^inc)→Calls prog 22 #[.pointer (some ⟨x,0,none⟩),.pointer (some ⟨y,0,none⟩)] W fun e w'=>∃ c,e=.returned (.int .i64 c)∧(c≤0↔b=true)∧But [] W w'):=fun W x y hx hy=>by
 refine (zro x y _ _ W hx hy ((ls _ (Nat.le_refl _)).mono (by omega)) ((ur.zcb inc).mono (by omega))).mono ?_
 rintro e w' ⟨c,he,h1,h2,h3,hbt⟩
 refine⟨c,he,?_,hbt⟩
 rw[hb,decide_eq_true_eq,zrr]
 constructor
 ·intro h
  refine Rat.not_lt.1 (fun h4=>?_)
  have:=h2.2 h4
  omega
 ·intro h
  have h4:¬ 0<c:=fun h5=>absurd (h2.1 h5) (Rat.not_lt.2 h)
  omega
obtain⟨a,cap,rfl,hcap,hV⟩:=zeb hr hF
have HV:=af hV
have HLT:=af lt
have HLS:=af ls
have HLP:=af lp
have HLW:=af lw
have HRB:=af hrb
have HUR:=af ur
obtain⟨n,hnn⟩:∃ n,n=fs.length:=⟨_,rfl⟩
rw[← hnn] at hn hcap HV HLT HLS HLP CM
rw[← hnn]
clear hV hr hF lf lp lt ls lw ur hrb hnn hb lr
go_enter func90,ntmps90
go_wp2_with fail
refine (ae I0 _).mono ?_
rintro e w1 ⟨g1,rfl,h1,hb1⟩
have S1:=af (And.intro h1 hb1)
clear h1 hb1
go_wp2_with fail
refine (ae I1 _).mono ?_
rintro e w2 ⟨g2,rfl,h2,hb2⟩
have S2:Hid (zi w2 g1 (sgR (fun j=>atR fs j*zw r j) 0)∧zi w2 g2 (zw r 0)∧But [] w w2):=⟨(ae S1).1.but hb2,h2,(ae S1).2.trans' hb2⟩
clear h2 hb2 S1 I0 I1
go_wp2
go_loopw [7,8,15] (fun p q i wr=>∃ (k pb qb:Nat),k≤n∧i=.int .i64 (k:Int)∧p=.pointer (some ⟨pb,0,none⟩)∧q=.pointer (some ⟨qb,0,none⟩)∧Hid (zi wr pb (sgR (fun j=>atR fs j*zw r j) k)∧zi wr qb (zw r k)∧But [] w wr)) (fun _ _ i _=>n-(intOf i).toNat)
case atStart=>exact⟨0,g1,g2,Nat.zero_le _,rfl,rfl,rfl,ae S2⟩
case round =>(
obtain⟨k,pb,qb,hk,rfl,rfl,rfl,HI⟩:=hrel
rename World=>wr
clear S2
by_cases hlt:k<n
·(
obtain⟨b',off,g,rfl,c0,hT⟩:=ae HV wr (ae HI).2.2 k hlt
have MU:=af (zrn g qb _ _ wr hT (ae HI).2.1 ((ae HLP k hlt).mono (by omega)) ((ae HLW k (by omega)).mono (by omega)))
clear hT
go_wp2_with fail
refine (ae MU).mono ?_
rintro e w3 ⟨x3,rfl,h3,hb3⟩
have A3:=af (zlq pb x3 _ _ w3 ((ae HI).1.but hb3) h3 ((ae HLS k (by omega)).mono (by omega)) ((ae HLT k hlt).mono (by omega)))
have S3:=af (And.intro ((ae HI).2.1.but hb3) ((ae HI).2.2.trans' hb3))
clear h3 hb3 MU HI
go_wp2_with fail
refine (ae A3).mono ?_
rintro e w4 ⟨x4,rfl,h4,hb4⟩
have M4:=af (zrn qb rb _ _ w4 ((ae S3).1.but hb4) ((ae HRB).but ((ae S3).2.trans' hb4)) ((ae HLW k (by omega)).mono (by omega)) ((ae HUR).mono (by omega)))
have S4:=af (And.intro h4 ((ae S3).2.trans' hb4))
clear h4 hb4 A3 S3
go_wp2_with fail
refine (ae M4).mono ?_
rintro e w5 ⟨x5,rfl,h5,hb5⟩
have S5:Hid (zi w5 x4 (sgR (fun j=>atR fs j*zw r j) (k+1))∧zi w5 x5 (zw r (k+1))∧But [] w w5):=⟨(ae S4).1.but hb5,h5,(ae S4).2.trans' hb5⟩
clear h5 hb5 M4 S4
go_wp2
exact⟨⟨k+1,x4,x5,by omega,by go_num,rfl,rfl,ae S5⟩,by simp[intOf];omega⟩)
·(
obtain rfl:k=n:=by omega
go_wp2_with fail
refine (ae PW _ (ae HI).2.2).mono ?_
rintro e w3 ⟨x3,rfl,h3,hb3⟩
have C3:=af (ae CM _ _ _ ((ae HI).1.but hb3) h3)
have B3:=af ((ae HI).2.2.trans' hb3)
clear h3 hb3 HI PW CM
go_wp2_with fail
refine (ae C3).mono ?_
rintro e w4 ⟨c,rfl,hc,hb4⟩
have B4:=af ((ae B3).trans' hb4)
clear hb4 B3 C3
cases b with
| true =>
 have h0:c≤0:=hc.2 rfl
 clear hc
 go_wp2
 go_ret
 exact⟨rfl,ae B4⟩
| false =>
 have h0:¬ c≤0:=fun h=>absurd (hc.1 h) (by decide)
 clear hc
 go_wp2
 go_ret
 exact⟨congrArg (fun b=>Ending.returned (Value.bool b)) (decide_eq_false (Int.not_le.2 h0)),ae B4⟩)))
theorem zxq (v:Value) (fs:List Rat) (inc:Nat) (rb:Nat) (r:Rat) (w:World) (hr:xw w v fs) (hrb:zi w rb r) (hn:fs.length≤41) (hi:inc≤20) (lf:∀ f ∈ fs,Len f 1) (lr:Len r 1) (b:Bool) (hb:b=decide (sgR (fun j=>atR fs j*zw r j) fs.length≤zw r inc)) :
  Calls prog 24 #[.int .i64 (inc:Int),v,.pointer (some ⟨rb,0,none⟩)] w fun e w'=>e=.returned (.bool b)∧But [] w w':=by(
have SI:=af (zxr v fs inc rb r w hr hrb hn hi lf lr b hb)
obtain⟨a,cap,rfl,-⟩:=hr.open
clear hr hb lf
generalize fs.length=n at *
go_enter func24,ntmps24
go_wp2_with fail
refine (ae SI).mono ?_
rintro e w1 ⟨rfl,hb1⟩
have B1:=af hb1
clear hb1 SI
go_wp2
go_ret
exact⟨rfl,ae B1⟩)
end Go.Proofs.YtagmkkiagjmimaaGreatDoor
