/- Whether what a line has may be so, as th -/
import Derived.Test.YtjlfllhedceigaaGreatDoorRRLs
namespace Go.Proofs.YtjlfllhedceigaaGreatDoor
open Go.Proofs.Tryz
open Go.RowKit
set_option maxHeartbeats 8000000
set_option maxRecDepth 100000
set_option linter.unusedVariables false
theorem je (a:Act) (w:World) (d t:Nat) (u:TypeId) (ps:String) (ed:Array Edge) (gd:Option (Nat × Bool)) (b:Nat) (h1:a.eval (.tmp t)=.pointer (some ⟨b,0,none⟩)) :
   (execOp a.eval { dst:=some d,op:=Op.fieldAddr 135 (.tmp t) 0,type:=u,pos:=ps,after:=ed,guard:=gd }).run prog w=.ok (.value (.pointer (some ⟨b,0,none⟩))) w:=by(
 unfold execOp
 simp only[h1]
 go_simp)
theorem zew (a:Act) (w:World) (d t:Nat) (u:TypeId) (ps:String) (ed:Array Edge) (gd:Option (Nat × Bool)) (b:Nat) (h1:a.eval (.tmp t)=.pointer (some ⟨b,0,none⟩)) :
   (execOp a.eval { dst:=some d,op:=Op.fieldAddr 135 (.tmp t) 1,type:=u,pos:=ps,after:=ed,guard:=gd }).run prog w=.ok (.value (.pointer (some ⟨b,1,none⟩))) w:=by(
 unfold execOp
 simp only[h1]
 go_simp)
theorem zbs (a:Act) (w:World) (d t:Nat) (u:TypeId) (ps:String) (ed:Array Edge) (gd:Option (Nat × Bool)) (b:Nat) (h1:a.eval (.tmp t)=.pointer (some ⟨b,0,none⟩)) :
   (execOp a.eval { dst:=some d,op:=Op.fieldAddr 135 (.tmp t) 3,type:=u,pos:=ps,after:=ed,guard:=gd }).run prog w=.ok (.value (.pointer (some ⟨b,3,none⟩))) w:=by(
 unfold execOp
 simp only[h1]
 go_simp)
theorem z8 (a:Act) (w:World) (d t:Nat) (u:TypeId) (ps:String) (ed:Array Edge) (gd:Option (Nat × Bool)) (b o:Nat) (z:Int) (h1:a.eval (.tmp t)=.pointer (some ⟨b,o,none⟩)) (c0:w.cell? ⟨b,o,none⟩=some (.int .i64 z)) :
   (execOp a.eval { dst:=some d,op:=Op.load 3 (.tmp t),type:=u,pos:=ps,after:=ed,guard:=gd }).run prog w=.ok (.value (.int .i64 z)) w:=by(
 unfold execOp
 simp only[h1]
 go_simp)
theorem zex (a:Act) (w:World) (d t:Nat) (u:TypeId) (ps:String) (ed:Array Edge) (gd:Option (Nat × Bool)) (b o:Nat) (z:Option Addr) (h1:a.eval (.tmp t)=.pointer (some ⟨b,o,none⟩)) (c0:w.cell? ⟨b,o,none⟩=some (.pointer z)) :
   (execOp a.eval { dst:=some d,op:=Op.load 37 (.tmp t),type:=u,pos:=ps,after:=ed,guard:=gd }).run prog w=.ok (.value (.pointer z)) w:=by(
 unfold execOp
 simp only[h1]
 go_simp)
theorem jf (a:Act) (w:World) (d t:Nat) (u:TypeId) (ps:String) (ed:Array Edge) (gd:Option (Nat × Bool)) (x c:Int) (b:Bool) (hb:b=(x==c)) (h:a.eval (.tmp t)=.int .i64 x) :
   (execOp a.eval { dst:=some d,op:=Op.binOp BinOp.eql 3 (.tmp t) (Operand.const (Value.int IntKind.i64 c)) 3,type:=u,pos:=ps,after:=ed,guard:=gd }).run prog w=.ok (.value (.bool b)) w:=by(
 have e:a.eval (.const (.int .i64 c))=.int .i64 c:=rfl
 subst hb
 unfold execOp
 simp only[h,e]
 go_simp)
theorem zbt (a:Act) (w:World) (d t:Nat) (u:TypeId) (ps:String) (ed:Array Edge) (gd:Option (Nat × Bool)) (x c:Int) (b:Bool) (hb:b=decide (x<c)) (h:a.eval (.tmp t)=.int .i64 x) :
   (execOp a.eval { dst:=some d,op:=Op.binOp BinOp.lss 3 (.tmp t) (Operand.const (Value.int IntKind.i64 c)) 3,type:=u,pos:=ps,after:=ed,guard:=gd }).run prog w=.ok (.value (.bool b)) w:=by(
 have e:a.eval (.const (.int .i64 c))=.int .i64 c:=rfl
 subst hb
 unfold execOp
 simp only[h,e]
 go_simp)
theorem zuf (a:Act) (w:World) (d t:Nat) (u:TypeId) (ps:String) (ed:Array Edge) (gd:Option (Nat × Bool)) (x c:Int) (b:Bool) (hb:b=decide (c<x)) (h:a.eval (.tmp t)=.int .i64 x) :
   (execOp a.eval { dst:=some d,op:=Op.binOp BinOp.gtr 3 (.tmp t) (Operand.const (Value.int IntKind.i64 c)) 3,type:=u,pos:=ps,after:=ed,guard:=gd }).run prog w=.ok (.value (.bool b)) w:=by(
 have e:a.eval (.const (.int .i64 c))=.int .i64 c:=rfl
 subst hb
 unfold execOp
 simp only[h,e]
 go_simp)
theorem qi (a:Act) (w:World) (d t1 t2:Nat) (u:TypeId) (ps:String) (ed:Array Edge) (gd:Option (Nat × Bool)) (b:Bool) (v o:Value) (ho:o=if b then .bool true else v) (h1:a.eval (.tmp t1)=.bool b) (h2:a.eval (.tmp t2)=v) :
   (execOp a.eval { dst:=some d,op:=Op.pick (.tmp t1) (.const (.bool true)) (.tmp t2),type:=u,pos:=ps,after:=ed,guard:=gd }).run prog w=.ok (.value o) w:=by(
 subst ho
 cases b
 ·unfold execOp
  simp only[h1,h2]
  go_simp
 ·unfold execOp
  simp only[h1,h2]
  go_simp)
theorem jh (a:Act) (w:World) (d t1 t2:Nat) (u:TypeId) (ps:String) (ed:Array Edge) (gd:Option (Nat × Bool)) (b:Bool) (v o:Value) (ho:o=if b then v else .bool false) (h1:a.eval (.tmp t1)=.bool b) (h2:a.eval (.tmp t2)=v) :
   (execOp a.eval { dst:=some d,op:=Op.pick (.tmp t1) (.tmp t2) (.const (.bool false)),type:=u,pos:=ps,after:=ed,guard:=gd }).run prog w=.ok (.value o) w:=by(
 subst ho
 cases b
 ·unfold execOp
  simp only[h1,h2]
  go_simp
 ·unfold execOp
  simp only[h1,h2]
  go_simp)
theorem zmp (a:Act) (w:World) (d:Nat) (u:TypeId) (ps:String) (ed:Array Edge) (gd:Option (Nat × Bool)) :
  (execOp a.eval { dst:=some d,op:=Op.call { callee:=Callee.value (Operand.func 56),args:=#[Operand.const (Value.int IntKind.i64 1)],argTypes:=#[3] },type:=u,pos:=ps,after:=ed,guard:=gd }).run prog w=.ok (.enter 56 #[.int .i64 1]) w:=by
 unfold execOp
 go_simp
theorem zns (a:Act) (w:World) (d t0:Nat) (u:TypeId) (ps:String) (ed:Array Edge) (gd:Option (Nat × Bool)) (z0:Value) (h0:a.eval (.tmp t0)=z0) :
   (execOp a.eval { dst:=some d,op:=Op.call { callee:=Callee.value (Operand.func 95),args:=#[Operand.tmp t0],argTypes:=#[37] },type:=u,pos:=ps,after:=ed,guard:=gd }).run prog w=.ok (.enter 95 #[z0]) w:=by(
 unfold execOp
 go_simp
 rw[← h0]
 simp[Act.eval])
theorem zug (a:Act) (w:World) (d t0 t1:Nat) (u:TypeId) (ps:String) (ed:Array Edge) (gd:Option (Nat × Bool)) (z0 z1:Value) (h0:a.eval (.tmp t0)=z0) (h1:a.eval (.tmp t1)=z1) :
   (execOp a.eval { dst:=some d,op:=Op.call { callee:=Callee.value (Operand.func 62),args:=#[Operand.tmp t0,Operand.tmp t1],argTypes:=#[37,37] },type:=u,pos:=ps,after:=ed,guard:=gd }).run prog w=.ok (.enter 62 #[z0,z1]) w:=by(
 unfold execOp
 go_simp
 rw[← h0,← h1]
 simp[Act.eval])
def p8:Oper:=⟨some 100,.fieldAddr 135 (.tmp 1) 0,0, "treaty.go:39",#[],none⟩
def pz:Oper:=⟨some 101,.load 3 (.tmp 100),3, "treaty.go:39",#[⟨0,.data⟩],none⟩
def pu:Oper:=⟨some 102,.binOp .eql 3 (.tmp 101) (.const (.int .i64 1)) 3,4, "treaty.go:39",#[⟨1,.data⟩],none⟩
def pg:Oper:=⟨some 103,.move (.tmp 102),4, "treaty.go:39",#[⟨2,.data⟩],none⟩
def o9:Oper:=⟨some 104,.fieldAddr 135 (.tmp 1) 1,0, "treaty.go:39",#[⟨3,.guard⟩],some (3,true)⟩
def o8:Oper:=⟨some 105,.load 37 (.tmp 104),37, "treaty.go:39",#[⟨4,.data⟩,⟨3,.guard⟩],some (3,true)⟩
def o7:Oper:=⟨some 106,.call { callee:=.value (.func 95),args:=#[.tmp 105],argTypes:=#[37] },3, "treaty.go:39",#[⟨5,.data⟩,⟨3,.chain⟩,⟨3,.guard⟩],some (3,true)⟩
def oz:Oper:=⟨some 107,.binOp .lss 3 (.tmp 106) (.const (.int .i64 0)) 3,4, "treaty.go:39",#[⟨6,.data⟩,⟨3,.guard⟩],some (3,true)⟩
def ow:Oper:=⟨some 108,.move (.tmp 107),4, "treaty.go:39",#[⟨7,.data⟩,⟨6,.chain⟩,⟨3,.guard⟩],some (3,true)⟩
def ou:Oper:=⟨some 109,.fieldAddr 135 (.tmp 1) 1,0, "treaty.go:39",#[⟨8,.guard⟩],some (8,false)⟩
def wu:Oper:=⟨some 110,.load 37 (.tmp 109),37, "treaty.go:39",#[⟨9,.data⟩,⟨8,.guard⟩],some (8,false)⟩
def wh:Oper:=⟨some 111,.call { callee:=.value (.func 56),args:=#[.const (.int .i64 1)],argTypes:=#[3] },37, "treaty.go:39",#[⟨8,.chain⟩,⟨8,.guard⟩],some (8,false)⟩
def y9:Oper:=⟨some 112,.call { callee:=.value (.func 62),args:=#[.tmp 110,.tmp 111],argTypes:=#[37,37] },3, "treaty.go:39",#[⟨10,.data⟩,⟨11,.data⟩,⟨11,.chain⟩,⟨8,.guard⟩],some (8,false)⟩
def y8:Oper:=⟨some 113,.binOp .gtr 3 (.tmp 112) (.const (.int .i64 0)) 3,4, "treaty.go:39",#[⟨12,.data⟩,⟨8,.guard⟩],some (8,false)⟩
def y7:Oper:=⟨some 114,.pick (.tmp 108) (.const (.bool true)) (.tmp 113),4, "treaty.go:39",#[⟨8,.data⟩,⟨13,.data⟩,⟨3,.guard⟩],some (3,true)⟩
def yx:Oper:=⟨some 115,.pick (.tmp 103) (.tmp 114) (.const (.bool false)),4, "treaty.go:39",#[⟨3,.data⟩,⟨14,.data⟩],none⟩
def yw:Oper:=⟨some 116,.move (.tmp 115),4, "treaty.go:39",#[⟨15,.data⟩,⟨12,.chain⟩],none⟩
def yu:Oper:=⟨some 117,.fieldAddr 135 (.tmp 1) 0,0, "treaty.go:39",#[⟨16,.guard⟩],some (16,false)⟩
def yt:Oper:=⟨some 118,.load 3 (.tmp 117),3, "treaty.go:39",#[⟨17,.data⟩,⟨16,.guard⟩],some (16,false)⟩
def yo:Oper:=⟨some 119,.binOp .eql 3 (.tmp 118) (.const (.int .i64 2)) 3,4, "treaty.go:39",#[⟨18,.data⟩,⟨16,.guard⟩],some (16,false)⟩
def yj:Oper:=⟨some 120,.move (.tmp 119),4, "treaty.go:39",#[⟨19,.data⟩,⟨16,.chain⟩,⟨16,.guard⟩],some (16,false)⟩
def yh:Oper:=⟨some 121,.fieldAddr 135 (.tmp 1) 0,0, "treaty.go:39",#[⟨20,.guard⟩],some (20,false)⟩
def yg:Oper:=⟨some 122,.load 3 (.tmp 121),3, "treaty.go:39",#[⟨21,.data⟩,⟨20,.guard⟩],some (20,false)⟩
def yc:Oper:=⟨some 123,.binOp .eql 3 (.tmp 122) (.const (.int .i64 3)) 3,4, "treaty.go:39",#[⟨22,.data⟩,⟨20,.guard⟩],some (20,false)⟩
def vz:Oper:=⟨some 124,.pick (.tmp 120) (.const (.bool true)) (.tmp 123),4, "treaty.go:39",#[⟨20,.data⟩,⟨23,.data⟩,⟨16,.guard⟩],some (16,false)⟩
def vw:Oper:=⟨some 125,.move (.tmp 124),4, "treaty.go:39",#[⟨24,.data⟩,⟨20,.chain⟩,⟨16,.guard⟩],some (16,false)⟩
def vv:Oper:=⟨some 126,.fieldAddr 135 (.tmp 1) 3,0, "treaty.go:39",#[⟨25,.guard⟩],some (25,true)⟩
def ve:Oper:=⟨some 127,.load 3 (.tmp 126),3, "treaty.go:39",#[⟨26,.data⟩,⟨25,.guard⟩],some (25,true)⟩
def kz:Oper:=⟨some 128,.binOp .lss 3 (.tmp 127) (.const (.int .i64 1)) 3,4, "treaty.go:39",#[⟨27,.data⟩,⟨25,.guard⟩],some (25,true)⟩
def ky:Oper:=⟨some 129,.pick (.tmp 125) (.tmp 128) (.const (.bool false)),4, "treaty.go:39",#[⟨25,.data⟩,⟨28,.data⟩,⟨16,.guard⟩],some (16,false)⟩
def kw:Oper:=⟨some 130,.pick (.tmp 116) (.const (.bool true)) (.tmp 129),4, "treaty.go:39",#[⟨16,.data⟩,⟨29,.data⟩],none⟩
def kv:Oper:=⟨some 131,.move (.tmp 130),4, "treaty.go:39",#[⟨30,.data⟩,⟨25,.chain⟩],none⟩
def ku:Oper:=⟨some 132,.move (.tmp 6),4, "treaty.go:39",#[⟨31,.guard⟩],some (31,false)⟩
def kr:Oper:=⟨some 133,.pick (.tmp 131) (.const (.bool true)) (.tmp 132),4, "treaty.go:39",#[⟨31,.data⟩,⟨32,.data⟩],none⟩
def za:Array Oper:=#[p8,pz,pu,pg,o9,o8,o7,oz,ow,ou,wu,wh,y9,y8,y7,yx,yw,yu,yt,yo,yj,yh,yg,yc,vz,vw,vv,ve,kz,ky,kw,kv,ku,kr]
def zhs (i:Nat):Nat:=match i with
 | 0=>100
 | 1=>101
 | 2=>102
 | 3=>103
 | 4=>104
 | 5=>105
 | 6=>106
 | 7=>107
 | 8=>108
 | 9=>109
 | 10=>110
 | 11=>111
 | 12=>112
 | 13=>113
 | 14=>114
 | 15=>115
 | 16=>116
 | 17=>117
 | 18=>118
 | 19=>119
 | 20=>120
 | 21=>121
 | 22=>122
 | 23=>123
 | 24=>124
 | 25=>125
 | 26=>126
 | 27=>127
 | 28=>128
 | 29=>129
 | 30=>130
 | 31=>131
 | 32=>132
 | _=>133
def zux (g1:Nat) (zb:Nat) (f:Rat) (sg:Int) (li:Int) (bd:Bool) (i:Nat) (_w:World) (v:Value):Prop:=match i with
 | 0=>v=.pointer (some ⟨g1,0,none⟩)
 | 1=>v=.int .i64 1
 | 2=>v=.bool true
 | 3=>v=.bool true
 | 4=>v=.pointer (some ⟨g1,1,none⟩)
 | 5=>v=.pointer (some ⟨zb,0,none⟩)
 | 6=>v=.int .i64 sg
 | 7=>v=.bool true
 | 8=>v=.bool true
 | 9=>v=undef
 | 10=>v=undef
 | 11=>v=undef
 | 12=>v=undef
 | 13=>v=undef
 | 14=>v=.bool true
 | 15=>v=.bool true
 | 16=>v=.bool true
 | 17=>v=undef
 | 18=>v=undef
 | 19=>v=undef
 | 20=>v=undef
 | 21=>v=undef
 | 22=>v=undef
 | 23=>v=undef
 | 24=>v=undef
 | 25=>v=undef
 | 26=>v=undef
 | 27=>v=undef
 | 28=>v=undef
 | 29=>v=undef
 | 30=>v=.bool true
 | 31=>v=.bool true
 | 32=>v=undef
 | _=>v=.bool true
def qha (i:Nat):Bool:=match i with
 | 9=>true
 | 10=>true
 | 11=>true
 | 12=>true
 | 13=>true
 | 17=>true
 | 18=>true
 | 19=>true
 | 20=>true
 | 21=>true
 | 22=>true
 | 23=>true
 | 24=>true
 | 25=>true
 | 26=>true
 | 27=>true
 | 28=>true
 | 29=>true
 | 32=>true
 | _=>false
theorem zwx:∀ i j,i<34→j<34→zhs i=zhs j→i=j:=fun i j hi hj=>(by decide:∀ i,i<34→∀ j,j<34→zhs i=zhs j→i=j) i hi j hj
theorem zcv (id:Nat) (Q:Exit→Act→World→Prop) (base:Act) (W0:World) (g1:Nat) (zb:Nat) (f:Rat) (sg:Int) (li:Int) (bd:Bool) (hs:133<base.tmps.size) (e1:base.eval (.tmp 1)=.pointer (some ⟨g1,0,none⟩)) (e6:base.eval (.tmp 6)=.bool bd)
   (c0:W0.cell? ⟨g1,0,none⟩=some (.int .i64 1)) (c1:W0.cell? ⟨g1,1,none⟩=some (.pointer (some ⟨zb,0,none⟩))) (hsg:sg<0)
   (SG:∀ w,But [] W0 w→Calls prog 95 #[.pointer (some ⟨zb,0,none⟩)] w fun e w'=>e=.returned (.int .i64 sg)∧But [] w w')
   (hQ:∀ w,But [] W0 w→Q .normal (bi base [(100,.pointer (some ⟨g1,0,none⟩)),(101,.int .i64 1),(102,.bool true),(103,.bool true),(104,.pointer (some ⟨g1,1,none⟩)),(105,.pointer (some ⟨zb,0,none⟩)),(106,.int .i64 sg),(107,.bool true),(108,.bool true),(109,undef),(110,undef),(111,undef),(112,undef),(113,undef),(114,.bool true),(115,.bool true),(116,.bool true),(117,undef),(118,undef),(119,undef),(120,undef),(121,undef),(122,undef),(123,undef),(124,undef),(125,undef),(126,undef),(127,undef),(128,undef),(129,undef),(130,.bool true),(131,.bool true),(132,undef),(133,.bool true)]) w) :
   (Code.region id za true).wp prog Q base W0:=by(
 have hdr:∀ {w},But [] W0.drew w→But [] W0 w:=fun h=>(But.refl _ _).drew.trans' h
 have hT:∀ i,i<34→zhs i<base.tmps.size:=fun i hi=>by
  have h:zhs i≤133:=by revert i;decide
  omega
 have hCb:∀ i w w' v,i<34→zux g1 zb f sg li bd i w v→zux g1 zb f sg li bd i w' v:=fun i w w' v hi h=>by
  have:i=0∨i=1∨i=2∨i=3∨i=4∨i=5∨i=6∨i=7∨i=8∨i=9∨i=10∨i=11∨i=12∨i=13∨i=14∨i=15∨i=16∨i=17∨i=18∨i=19∨i=20∨i=21∨i=22∨i=23∨i=24∨i=25∨i=26∨i=27∨i=28∨i=29∨i=30∨i=31∨i=32∨i=33:=by omega
  rcases this with rfl|rfl|rfl|rfl|rfl|rfl|rfl|rfl|rfl|rfl|rfl|rfl|rfl|rfl|rfl|rfl|rfl|rfl|rfl|rfl|rfl|rfl|rfl|rfl|rfl|rfl|rfl|rfl|rfl|rfl|rfl|rfl|rfl|rfl
  ·exact (show v=.pointer (some ⟨g1,0,none⟩) from h)
  ·exact (show v=.int .i64 1 from h)
  ·exact (show v=.bool true from h)
  ·exact (show v=.bool true from h)
  ·exact (show v=.pointer (some ⟨g1,1,none⟩) from h)
  ·exact (show v=.pointer (some ⟨zb,0,none⟩) from h)
  ·exact (show v=.int .i64 sg from h)
  ·exact (show v=.bool true from h)
  ·exact (show v=.bool true from h)
  ·exact (show v=undef from h)
  ·exact (show v=undef from h)
  ·exact (show v=undef from h)
  ·exact (show v=undef from h)
  ·exact (show v=undef from h)
  ·exact (show v=.bool true from h)
  ·exact (show v=.bool true from h)
  ·exact (show v=.bool true from h)
  ·exact (show v=undef from h)
  ·exact (show v=undef from h)
  ·exact (show v=undef from h)
  ·exact (show v=undef from h)
  ·exact (show v=undef from h)
  ·exact (show v=undef from h)
  ·exact (show v=undef from h)
  ·exact (show v=undef from h)
  ·exact (show v=undef from h)
  ·exact (show v=undef from h)
  ·exact (show v=undef from h)
  ·exact (show v=undef from h)
  ·exact (show v=undef from h)
  ·exact (show v=.bool true from h)
  ·exact (show v=.bool true from h)
  ·exact (show v=undef from h)
  ·exact (show v=.bool true from h)
 refine ji (by kernel_rfl) (di (by kernel_rfl)) (zux g1 zb f sg li bd) zhs (by kernel_rfl) qha ?_ ?_ ?_ zwx hT (fun i w w' v hi h _=>hCb i w w' v hi h) ?_ ?_
 ·(
 intro i o j want ho hg w v hv
 have hi:i<34:=(Array.getElem?_eq_some_iff.1 ho).1
 have:i=0∨i=1∨i=2∨i=3∨i=4∨i=5∨i=6∨i=7∨i=8∨i=9∨i=10∨i=11∨i=12∨i=13∨i=14∨i=15∨i=16∨i=17∨i=18∨i=19∨i=20∨i=21∨i=22∨i=23∨i=24∨i=25∨i=26∨i=27∨i=28∨i=29∨i=30∨i=31∨i=32∨i=33:=by omega
 rcases this with rfl|rfl|rfl|rfl|rfl|rfl|rfl|rfl|rfl|rfl|rfl|rfl|rfl|rfl|rfl|rfl|rfl|rfl|rfl|rfl|rfl|rfl|rfl|rfl|rfl|rfl|rfl|rfl|rfl|rfl|rfl|rfl|rfl|rfl
 ·obtain rfl:=so (show za[0]? =some p8 from rfl) ho
  exact absurd (show (none:Option (Nat × Bool))=some (j,want) from hg) (by simp)
 ·obtain rfl:=so (show za[1]? =some pz from rfl) ho
  exact absurd (show (none:Option (Nat × Bool))=some (j,want) from hg) (by simp)
 ·obtain rfl:=so (show za[2]? =some pu from rfl) ho
  exact absurd (show (none:Option (Nat × Bool))=some (j,want) from hg) (by simp)
 ·obtain rfl:=so (show za[3]? =some pg from rfl) ho
  exact absurd (show (none:Option (Nat × Bool))=some (j,want) from hg) (by simp)
 ·obtain rfl:=so (show za[4]? =some o9 from rfl) ho
  obtain⟨rfl,rfl⟩:=Prod.mk.inj (Option.some.inj (show some (3,true)=some (j,want) from hg))
  exact⟨fun h=>absurd (show false=true from h) (by simp),fun _=>hv⟩
 ·obtain rfl:=so (show za[5]? =some o8 from rfl) ho
  obtain⟨rfl,rfl⟩:=Prod.mk.inj (Option.some.inj (show some (3,true)=some (j,want) from hg))
  exact⟨fun h=>absurd (show false=true from h) (by simp),fun _=>hv⟩
 ·obtain rfl:=so (show za[6]? =some o7 from rfl) ho
  obtain⟨rfl,rfl⟩:=Prod.mk.inj (Option.some.inj (show some (3,true)=some (j,want) from hg))
  exact⟨fun h=>absurd (show false=true from h) (by simp),fun _=>hv⟩
 ·obtain rfl:=so (show za[7]? =some oz from rfl) ho
  obtain⟨rfl,rfl⟩:=Prod.mk.inj (Option.some.inj (show some (3,true)=some (j,want) from hg))
  exact⟨fun h=>absurd (show false=true from h) (by simp),fun _=>hv⟩
 ·obtain rfl:=so (show za[8]? =some ow from rfl) ho
  obtain⟨rfl,rfl⟩:=Prod.mk.inj (Option.some.inj (show some (3,true)=some (j,want) from hg))
  exact⟨fun h=>absurd (show false=true from h) (by simp),fun _=>hv⟩
 ·obtain rfl:=so (show za[9]? =some ou from rfl) ho
  obtain⟨rfl,rfl⟩:=Prod.mk.inj (Option.some.inj (show some (8,false)=some (j,want) from hg))
  exact⟨fun _=>.inr hv,fun h=>absurd (show true=false from h) (by simp)⟩
 ·obtain rfl:=so (show za[10]? =some wu from rfl) ho
  obtain⟨rfl,rfl⟩:=Prod.mk.inj (Option.some.inj (show some (8,false)=some (j,want) from hg))
  exact⟨fun _=>.inr hv,fun h=>absurd (show true=false from h) (by simp)⟩
 ·obtain rfl:=so (show za[11]? =some wh from rfl) ho
  obtain⟨rfl,rfl⟩:=Prod.mk.inj (Option.some.inj (show some (8,false)=some (j,want) from hg))
  exact⟨fun _=>.inr hv,fun h=>absurd (show true=false from h) (by simp)⟩
 ·obtain rfl:=so (show za[12]? =some y9 from rfl) ho
  obtain⟨rfl,rfl⟩:=Prod.mk.inj (Option.some.inj (show some (8,false)=some (j,want) from hg))
  exact⟨fun _=>.inr hv,fun h=>absurd (show true=false from h) (by simp)⟩
 ·obtain rfl:=so (show za[13]? =some y8 from rfl) ho
  obtain⟨rfl,rfl⟩:=Prod.mk.inj (Option.some.inj (show some (8,false)=some (j,want) from hg))
  exact⟨fun _=>.inr hv,fun h=>absurd (show true=false from h) (by simp)⟩
 ·obtain rfl:=so (show za[14]? =some y7 from rfl) ho
  obtain⟨rfl,rfl⟩:=Prod.mk.inj (Option.some.inj (show some (3,true)=some (j,want) from hg))
  exact⟨fun h=>absurd (show false=true from h) (by simp),fun _=>hv⟩
 ·obtain rfl:=so (show za[15]? =some yx from rfl) ho
  exact absurd (show (none:Option (Nat × Bool))=some (j,want) from hg) (by simp)
 ·obtain rfl:=so (show za[16]? =some yw from rfl) ho
  exact absurd (show (none:Option (Nat × Bool))=some (j,want) from hg) (by simp)
 ·obtain rfl:=so (show za[17]? =some yu from rfl) ho
  obtain⟨rfl,rfl⟩:=Prod.mk.inj (Option.some.inj (show some (16,false)=some (j,want) from hg))
  exact⟨fun _=>.inr hv,fun h=>absurd (show true=false from h) (by simp)⟩
 ·obtain rfl:=so (show za[18]? =some yt from rfl) ho
  obtain⟨rfl,rfl⟩:=Prod.mk.inj (Option.some.inj (show some (16,false)=some (j,want) from hg))
  exact⟨fun _=>.inr hv,fun h=>absurd (show true=false from h) (by simp)⟩
 ·obtain rfl:=so (show za[19]? =some yo from rfl) ho
  obtain⟨rfl,rfl⟩:=Prod.mk.inj (Option.some.inj (show some (16,false)=some (j,want) from hg))
  exact⟨fun _=>.inr hv,fun h=>absurd (show true=false from h) (by simp)⟩
 ·obtain rfl:=so (show za[20]? =some yj from rfl) ho
  obtain⟨rfl,rfl⟩:=Prod.mk.inj (Option.some.inj (show some (16,false)=some (j,want) from hg))
  exact⟨fun _=>.inr hv,fun h=>absurd (show true=false from h) (by simp)⟩
 ·obtain rfl:=so (show za[21]? =some yh from rfl) ho
  obtain⟨rfl,rfl⟩:=Prod.mk.inj (Option.some.inj (show some (20,false)=some (j,want) from hg))
  exact⟨fun _=>.inl hv,fun h=>absurd (show true=false from h) (by simp)⟩
 ·obtain rfl:=so (show za[22]? =some yg from rfl) ho
  obtain⟨rfl,rfl⟩:=Prod.mk.inj (Option.some.inj (show some (20,false)=some (j,want) from hg))
  exact⟨fun _=>.inl hv,fun h=>absurd (show true=false from h) (by simp)⟩
 ·obtain rfl:=so (show za[23]? =some yc from rfl) ho
  obtain⟨rfl,rfl⟩:=Prod.mk.inj (Option.some.inj (show some (20,false)=some (j,want) from hg))
  exact⟨fun _=>.inl hv,fun h=>absurd (show true=false from h) (by simp)⟩
 ·obtain rfl:=so (show za[24]? =some vz from rfl) ho
  obtain⟨rfl,rfl⟩:=Prod.mk.inj (Option.some.inj (show some (16,false)=some (j,want) from hg))
  exact⟨fun _=>.inr hv,fun h=>absurd (show true=false from h) (by simp)⟩
 ·obtain rfl:=so (show za[25]? =some vw from rfl) ho
  obtain⟨rfl,rfl⟩:=Prod.mk.inj (Option.some.inj (show some (16,false)=some (j,want) from hg))
  exact⟨fun _=>.inr hv,fun h=>absurd (show true=false from h) (by simp)⟩
 ·obtain rfl:=so (show za[26]? =some vv from rfl) ho
  obtain⟨rfl,rfl⟩:=Prod.mk.inj (Option.some.inj (show some (25,true)=some (j,want) from hg))
  exact⟨fun _=>.inl hv,fun h=>absurd (show true=false from h) (by simp)⟩
 ·obtain rfl:=so (show za[27]? =some ve from rfl) ho
  obtain⟨rfl,rfl⟩:=Prod.mk.inj (Option.some.inj (show some (25,true)=some (j,want) from hg))
  exact⟨fun _=>.inl hv,fun h=>absurd (show true=false from h) (by simp)⟩
 ·obtain rfl:=so (show za[28]? =some kz from rfl) ho
  obtain⟨rfl,rfl⟩:=Prod.mk.inj (Option.some.inj (show some (25,true)=some (j,want) from hg))
  exact⟨fun _=>.inl hv,fun h=>absurd (show true=false from h) (by simp)⟩
 ·obtain rfl:=so (show za[29]? =some ky from rfl) ho
  obtain⟨rfl,rfl⟩:=Prod.mk.inj (Option.some.inj (show some (16,false)=some (j,want) from hg))
  exact⟨fun _=>.inr hv,fun h=>absurd (show true=false from h) (by simp)⟩
 ·obtain rfl:=so (show za[30]? =some kw from rfl) ho
  exact absurd (show (none:Option (Nat × Bool))=some (j,want) from hg) (by simp)
 ·obtain rfl:=so (show za[31]? =some kv from rfl) ho
  exact absurd (show (none:Option (Nat × Bool))=some (j,want) from hg) (by simp)
 ·obtain rfl:=so (show za[32]? =some ku from rfl) ho
  obtain⟨rfl,rfl⟩:=Prod.mk.inj (Option.some.inj (show some (31,false)=some (j,want) from hg))
  exact⟨fun _=>.inr hv,fun h=>absurd (show true=false from h) (by simp)⟩
 ·obtain rfl:=so (show za[33]? =some kr from rfl) ho
  exact absurd (show (none:Option (Nat × Bool))=some (j,want) from hg) (by simp))
 ·(
 intro i o ho hk hg
 have hi:i<34:=(Array.getElem?_eq_some_iff.1 ho).1
 have:i=0∨i=1∨i=2∨i=3∨i=4∨i=5∨i=6∨i=7∨i=8∨i=9∨i=10∨i=11∨i=12∨i=13∨i=14∨i=15∨i=16∨i=17∨i=18∨i=19∨i=20∨i=21∨i=22∨i=23∨i=24∨i=25∨i=26∨i=27∨i=28∨i=29∨i=30∨i=31∨i=32∨i=33:=by omega
 rcases this with rfl|rfl|rfl|rfl|rfl|rfl|rfl|rfl|rfl|rfl|rfl|rfl|rfl|rfl|rfl|rfl|rfl|rfl|rfl|rfl|rfl|rfl|rfl|rfl|rfl|rfl|rfl|rfl|rfl|rfl|rfl|rfl|rfl|rfl
 ·exact absurd (show false=true from hk) (by simp)
 ·exact absurd (show false=true from hk) (by simp)
 ·exact absurd (show false=true from hk) (by simp)
 ·exact absurd (show false=true from hk) (by simp)
 ·exact absurd (show false=true from hk) (by simp)
 ·exact absurd (show false=true from hk) (by simp)
 ·exact absurd (show false=true from hk) (by simp)
 ·exact absurd (show false=true from hk) (by simp)
 ·exact absurd (show false=true from hk) (by simp)
 ·obtain rfl:=so (show za[9]? =some ou from rfl) ho
  exact absurd (show some (8,false)=(none:Option (Nat × Bool)) from hg) (by simp)
 ·obtain rfl:=so (show za[10]? =some wu from rfl) ho
  exact absurd (show some (8,false)=(none:Option (Nat × Bool)) from hg) (by simp)
 ·obtain rfl:=so (show za[11]? =some wh from rfl) ho
  exact absurd (show some (8,false)=(none:Option (Nat × Bool)) from hg) (by simp)
 ·obtain rfl:=so (show za[12]? =some y9 from rfl) ho
  exact absurd (show some (8,false)=(none:Option (Nat × Bool)) from hg) (by simp)
 ·obtain rfl:=so (show za[13]? =some y8 from rfl) ho
  exact absurd (show some (8,false)=(none:Option (Nat × Bool)) from hg) (by simp)
 ·exact absurd (show false=true from hk) (by simp)
 ·exact absurd (show false=true from hk) (by simp)
 ·exact absurd (show false=true from hk) (by simp)
 ·obtain rfl:=so (show za[17]? =some yu from rfl) ho
  exact absurd (show some (16,false)=(none:Option (Nat × Bool)) from hg) (by simp)
 ·obtain rfl:=so (show za[18]? =some yt from rfl) ho
  exact absurd (show some (16,false)=(none:Option (Nat × Bool)) from hg) (by simp)
 ·obtain rfl:=so (show za[19]? =some yo from rfl) ho
  exact absurd (show some (16,false)=(none:Option (Nat × Bool)) from hg) (by simp)
 ·obtain rfl:=so (show za[20]? =some yj from rfl) ho
  exact absurd (show some (16,false)=(none:Option (Nat × Bool)) from hg) (by simp)
 ·obtain rfl:=so (show za[21]? =some yh from rfl) ho
  exact absurd (show some (20,false)=(none:Option (Nat × Bool)) from hg) (by simp)
 ·obtain rfl:=so (show za[22]? =some yg from rfl) ho
  exact absurd (show some (20,false)=(none:Option (Nat × Bool)) from hg) (by simp)
 ·obtain rfl:=so (show za[23]? =some yc from rfl) ho
  exact absurd (show some (20,false)=(none:Option (Nat × Bool)) from hg) (by simp)
 ·obtain rfl:=so (show za[24]? =some vz from rfl) ho
  exact absurd (show some (16,false)=(none:Option (Nat × Bool)) from hg) (by simp)
 ·obtain rfl:=so (show za[25]? =some vw from rfl) ho
  exact absurd (show some (16,false)=(none:Option (Nat × Bool)) from hg) (by simp)
 ·obtain rfl:=so (show za[26]? =some vv from rfl) ho
  exact absurd (show some (25,true)=(none:Option (Nat × Bool)) from hg) (by simp)
 ·obtain rfl:=so (show za[27]? =some ve from rfl) ho
  exact absurd (show some (25,true)=(none:Option (Nat × Bool)) from hg) (by simp)
 ·obtain rfl:=so (show za[28]? =some kz from rfl) ho
  exact absurd (show some (25,true)=(none:Option (Nat × Bool)) from hg) (by simp)
 ·obtain rfl:=so (show za[29]? =some ky from rfl) ho
  exact absurd (show some (16,false)=(none:Option (Nat × Bool)) from hg) (by simp)
 ·exact absurd (show false=true from hk) (by simp)
 ·exact absurd (show false=true from hk) (by simp)
 ·obtain rfl:=so (show za[32]? =some ku from rfl) ho
  exact absurd (show some (31,false)=(none:Option (Nat × Bool)) from hg) (by simp)
 ·exact absurd (show false=true from hk) (by simp))
 ·(
 intro i w hk
 by_cases hi:i<34
 ·(
 have:i=0∨i=1∨i=2∨i=3∨i=4∨i=5∨i=6∨i=7∨i=8∨i=9∨i=10∨i=11∨i=12∨i=13∨i=14∨i=15∨i=16∨i=17∨i=18∨i=19∨i=20∨i=21∨i=22∨i=23∨i=24∨i=25∨i=26∨i=27∨i=28∨i=29∨i=30∨i=31∨i=32∨i=33:=by omega
 rcases this with rfl|rfl|rfl|rfl|rfl|rfl|rfl|rfl|rfl|rfl|rfl|rfl|rfl|rfl|rfl|rfl|rfl|rfl|rfl|rfl|rfl|rfl|rfl|rfl|rfl|rfl|rfl|rfl|rfl|rfl|rfl|rfl|rfl|rfl
 ·exact absurd (show false=true from hk) (by simp)
 ·exact absurd (show false=true from hk) (by simp)
 ·exact absurd (show false=true from hk) (by simp)
 ·exact absurd (show false=true from hk) (by simp)
 ·exact absurd (show false=true from hk) (by simp)
 ·exact absurd (show false=true from hk) (by simp)
 ·exact absurd (show false=true from hk) (by simp)
 ·exact absurd (show false=true from hk) (by simp)
 ·exact absurd (show false=true from hk) (by simp)
 ·exact (show undef=undef from rfl)
 ·exact (show undef=undef from rfl)
 ·exact (show undef=undef from rfl)
 ·exact (show undef=undef from rfl)
 ·exact (show undef=undef from rfl)
 ·exact absurd (show false=true from hk) (by simp)
 ·exact absurd (show false=true from hk) (by simp)
 ·exact absurd (show false=true from hk) (by simp)
 ·exact (show undef=undef from rfl)
 ·exact (show undef=undef from rfl)
 ·exact (show undef=undef from rfl)
 ·exact (show undef=undef from rfl)
 ·exact (show undef=undef from rfl)
 ·exact (show undef=undef from rfl)
 ·exact (show undef=undef from rfl)
 ·exact (show undef=undef from rfl)
 ·exact (show undef=undef from rfl)
 ·exact (show undef=undef from rfl)
 ·exact (show undef=undef from rfl)
 ·exact (show undef=undef from rfl)
 ·exact (show undef=undef from rfl)
 ·exact absurd (show false=true from hk) (by simp)
 ·exact absurd (show false=true from hk) (by simp)
 ·exact (show undef=undef from rfl)
 ·exact absurd (show false=true from hk) (by simp))
 ·(
 exfalso
 unfold qha at hk
 split at hk
 ·omega
 ·omega
 ·omega
 ·omega
 ·omega
 ·omega
 ·omega
 ·omega
 ·omega
 ·omega
 ·omega
 ·omega
 ·omega
 ·omega
 ·omega
 ·omega
 ·omega
 ·omega
 ·omega
 ·simp at hk))
 ·(
 intro i o a w K hki ho hH he hdep hk
 have hi:i<34:=(Array.getElem?_eq_some_iff.1 ho).1
 have hD:=jq (ps:=[(1,0),(2,1),(3,2),(4,3),(5,3),(5,4),(6,3),(6,5),(7,3),(7,6),(8,3),(8,6),(8,7),(9,8),(10,8),(10,9),(11,8),(12,8),(12,10),(12,11),(13,8),(13,12),(14,3),(14,8),(14,13),(15,3),(15,14),(16,12),(16,15),(17,16),(18,16),(18,17),(19,16),(19,18),(20,16),(20,19),(21,20),(22,20),(22,21),(23,20),(23,22),(24,16),(24,20),(24,23),(25,16),(25,20),(25,24),(26,25),(27,25),(27,26),(28,25),(28,27),(29,16),(29,25),(29,28),(30,16),(30,29),(31,25),(31,30),(32,31),(33,31),(33,32)]) (by kernel_rfl) ho (fun j=>zux g1 zb f sg li bd j w (a.eval (.tmp (zhs j)))) hdep
 have e1':=(he 1 (fun j hj e=>absurd e.symm (by revert j;decide))).trans e1
 have e6':=(he 6 (fun j hj e=>absurd e.symm (by revert j;decide))).trans e6
 have:i=0∨i=1∨i=2∨i=3∨i=4∨i=5∨i=6∨i=7∨i=8∨i=9∨i=10∨i=11∨i=12∨i=13∨i=14∨i=15∨i=16∨i=17∨i=18∨i=19∨i=20∨i=21∨i=22∨i=23∨i=24∨i=25∨i=26∨i=27∨i=28∨i=29∨i=30∨i=31∨i=32∨i=33:=by omega
 rcases this with rfl|rfl|rfl|rfl|rfl|rfl|rfl|rfl|rfl|rfl|rfl|rfl|rfl|rfl|rfl|rfl|rfl|rfl|rfl|rfl|rfl|rfl|rfl|rfl|rfl|rfl|rfl|rfl|rfl|rfl|rfl|rfl|rfl|rfl
 ·obtain rfl:=so (show za[0]? =some p8 from rfl) ho
  exact al (je a w _ _ _ _ _ _ g1 e1') (hk _ _ (But.refl _ _) rfl)
 ·obtain rfl:=so (show za[1]? =some pz from rfl) ho
  exact al (z8 a w _ _ _ _ _ _ g1 0 _ (hD 0 (by simp)) ((hdr hH).ag c0 (by simp))) (hk _ _ (But.refl _ _) rfl)
 ·obtain rfl:=so (show za[2]? =some pu from rfl) ho
  exact al (jf a w _ _ _ _ _ _ 1 1 true rfl (hD 1 (by simp))) (hk _ _ (But.refl _ _) rfl)
 ·obtain rfl:=so (show za[3]? =some pg from rfl) ho
  exact al (br a w _ _ _ _ _ _ _ (hD 2 (by simp))) (hk _ _ (But.refl _ _) rfl)
 ·obtain rfl:=so (show za[4]? =some o9 from rfl) ho
  exact al (zew a w _ _ _ _ _ _ g1 e1') (hk _ _ (But.refl _ _) rfl)
 ·obtain rfl:=so (show za[5]? =some o8 from rfl) ho
  exact al (zex a w _ _ _ _ _ _ g1 1 _ (hD 4 (by simp)) ((hdr hH).ag c1 (by simp))) (hk _ _ (But.refl _ _) rfl)
 ·obtain rfl:=so (show za[6]? =some o7 from rfl) ho
  exact aw (zns a w _ _ _ _ _ _ _ (hD 5 (by simp))) (R:=fun w' v=>But [] w w'∧v=_) ((SG w (hdr hH)).mono fun e w' ⟨he,hb⟩=>⟨_,he,hb,rfl⟩) (fun v w' hv=>hk v w' hv.1 hv.2)
 ·obtain rfl:=so (show za[7]? =some oz from rfl) ho
  exact al (zbt a w _ _ _ _ _ _ sg 0 true (decide_eq_true hsg).symm (hD 6 (by simp))) (hk _ _ (But.refl _ _) rfl)
 ·obtain rfl:=so (show za[8]? =some ow from rfl) ho
  exact al (br a w _ _ _ _ _ _ _ (hD 7 (by simp))) (hk _ _ (But.refl _ _) rfl)
 ·exact absurd (show true=false from hki) (by simp)
 ·exact absurd (show true=false from hki) (by simp)
 ·exact absurd (show true=false from hki) (by simp)
 ·exact absurd (show true=false from hki) (by simp)
 ·exact absurd (show true=false from hki) (by simp)
 ·obtain rfl:=so (show za[14]? =some y7 from rfl) ho
  exact al (qi a w _ _ _ _ _ _ _ true (undef) _ rfl (hD 8 (by simp)) (hD 13 (by simp))) (hk _ _ (But.refl _ _) rfl)
 ·obtain rfl:=so (show za[15]? =some yx from rfl) ho
  exact al (jh a w _ _ _ _ _ _ _ true (.bool true) _ rfl (hD 3 (by simp)) (hD 14 (by simp))) (hk _ _ (But.refl _ _) rfl)
 ·obtain rfl:=so (show za[16]? =some yw from rfl) ho
  exact al (br a w _ _ _ _ _ _ _ (hD 15 (by simp))) (hk _ _ (But.refl _ _) rfl)
 ·exact absurd (show true=false from hki) (by simp)
 ·exact absurd (show true=false from hki) (by simp)
 ·exact absurd (show true=false from hki) (by simp)
 ·exact absurd (show true=false from hki) (by simp)
 ·exact absurd (show true=false from hki) (by simp)
 ·exact absurd (show true=false from hki) (by simp)
 ·exact absurd (show true=false from hki) (by simp)
 ·exact absurd (show true=false from hki) (by simp)
 ·exact absurd (show true=false from hki) (by simp)
 ·exact absurd (show true=false from hki) (by simp)
 ·exact absurd (show true=false from hki) (by simp)
 ·exact absurd (show true=false from hki) (by simp)
 ·exact absurd (show true=false from hki) (by simp)
 ·obtain rfl:=so (show za[30]? =some kw from rfl) ho
  exact al (qi a w _ _ _ _ _ _ _ true (undef) _ rfl (hD 16 (by simp)) (hD 29 (by simp))) (hk _ _ (But.refl _ _) rfl)
 ·obtain rfl:=so (show za[31]? =some kv from rfl) ho
  exact al (br a w _ _ _ _ _ _ _ (hD 30 (by simp))) (hk _ _ (But.refl _ _) rfl)
 ·exact absurd (show true=false from hki) (by simp)
 ·obtain rfl:=so (show za[33]? =some kr from rfl) ho
  exact al (qi a w _ _ _ _ _ _ _ true (undef) _ rfl (hD 31 (by simp)) (hD 32 (by simp))) (hk _ _ (But.refl _ _) rfl))
 ·(
 intro a w h
 have ea:=h.puts hT (fun i=>match i with
  | 0=>.pointer (some ⟨g1,0,none⟩)
  | 1=>.int .i64 1
  | 2=>.bool true
  | 3=>.bool true
  | 4=>.pointer (some ⟨g1,1,none⟩)
  | 5=>.pointer (some ⟨zb,0,none⟩)
  | 6=>.int .i64 sg
  | 7=>.bool true
  | 8=>.bool true
  | 9=>undef
  | 10=>undef
  | 11=>undef
  | 12=>undef
  | 13=>undef
  | 14=>.bool true
  | 15=>.bool true
  | 16=>.bool true
  | 17=>undef
  | 18=>undef
  | 19=>undef
  | 20=>undef
  | 21=>undef
  | 22=>undef
  | 23=>undef
  | 24=>undef
  | 25=>undef
  | 26=>undef
  | 27=>undef
  | 28=>undef
  | 29=>undef
  | 30=>.bool true
  | 31=>.bool true
  | 32=>undef
  | _=>.bool true) (fun i hi=>by
  have hi':i<34:=hi
  have hc:=h.has i hi rfl
  have:i=0∨i=1∨i=2∨i=3∨i=4∨i=5∨i=6∨i=7∨i=8∨i=9∨i=10∨i=11∨i=12∨i=13∨i=14∨i=15∨i=16∨i=17∨i=18∨i=19∨i=20∨i=21∨i=22∨i=23∨i=24∨i=25∨i=26∨i=27∨i=28∨i=29∨i=30∨i=31∨i=32∨i=33:=by omega
  rcases this with rfl|rfl|rfl|rfl|rfl|rfl|rfl|rfl|rfl|rfl|rfl|rfl|rfl|rfl|rfl|rfl|rfl|rfl|rfl|rfl|rfl|rfl|rfl|rfl|rfl|rfl|rfl|rfl|rfl|rfl|rfl|rfl|rfl|rfl
  all_goals first | exact hc|rfl)
 rw[ea]
 exact hQ w (hdr h.but)))
def zhr (i:Nat):Nat:=match i with
 | 0=>100
 | 1=>101
 | 2=>102
 | 3=>103
 | 4=>104
 | 5=>105
 | 6=>106
 | 7=>107
 | 8=>108
 | 9=>109
 | 10=>110
 | 11=>111
 | 12=>112
 | 13=>113
 | 14=>114
 | 15=>115
 | 16=>116
 | 17=>117
 | 18=>118
 | 19=>119
 | 20=>120
 | 21=>121
 | 22=>122
 | 23=>123
 | 24=>124
 | 25=>125
 | 26=>126
 | 27=>127
 | 28=>128
 | 29=>129
 | 30=>130
 | 31=>131
 | 32=>132
 | _=>133
def zuw (g1:Nat) (zb:Nat) (f:Rat) (sg:Int) (li:Int) (bd:Bool) (i:Nat) (w:World) (v:Value):Prop:=match i with
 | 0=>v=.pointer (some ⟨g1,0,none⟩)
 | 1=>v=.int .i64 1
 | 2=>v=.bool true
 | 3=>v=.bool true
 | 4=>v=.pointer (some ⟨g1,1,none⟩)
 | 5=>v=.pointer (some ⟨zb,0,none⟩)
 | 6=>v=.int .i64 sg
 | 7=>v=.bool false
 | 8=>v=.bool false
 | 9=>v=.pointer (some ⟨g1,1,none⟩)
 | 10=>v=.pointer (some ⟨zb,0,none⟩)
 | 11=>∃ y,v=.pointer (some ⟨y,0,none⟩)∧zx w y 1
 | 12=>∃ c:Int,v=.int .i64 c∧(0<c↔1<f)
 | 13=>v=.bool true
 | 14=>v=.bool true
 | 15=>v=.bool true
 | 16=>v=.bool true
 | 17=>v=undef
 | 18=>v=undef
 | 19=>v=undef
 | 20=>v=undef
 | 21=>v=undef
 | 22=>v=undef
 | 23=>v=undef
 | 24=>v=undef
 | 25=>v=undef
 | 26=>v=undef
 | 27=>v=undef
 | 28=>v=undef
 | 29=>v=undef
 | 30=>v=.bool true
 | 31=>v=.bool true
 | 32=>v=undef
 | _=>v=.bool true
def qgz (i:Nat):Bool:=match i with
 | 17=>true
 | 18=>true
 | 19=>true
 | 20=>true
 | 21=>true
 | 22=>true
 | 23=>true
 | 24=>true
 | 25=>true
 | 26=>true
 | 27=>true
 | 28=>true
 | 29=>true
 | 32=>true
 | _=>false
theorem zww:∀ i j,i<34→j<34→zhr i=zhr j→i=j:=fun i j hi hj=>(by decide:∀ i,i<34→∀ j,j<34→zhr i=zhr j→i=j) i hi j hj
theorem zfi (id:Nat) (Q:Exit→Act→World→Prop) (base:Act) (W0:World) (g1:Nat) (zb:Nat) (f:Rat) (sg:Int) (li:Int) (bd:Bool) (hs:133<base.tmps.size) (e1:base.eval (.tmp 1)=.pointer (some ⟨g1,0,none⟩)) (e6:base.eval (.tmp 6)=.bool bd)
   (c0:W0.cell? ⟨g1,0,none⟩=some (.int .i64 1)) (c1:W0.cell? ⟨g1,1,none⟩=some (.pointer (some ⟨zb,0,none⟩))) (hsg:¬ sg<0)
   (SG:∀ w,But [] W0 w→Calls prog 95 #[.pointer (some ⟨zb,0,none⟩)] w fun e w'=>e=.returned (.int .i64 sg)∧But [] w w') (hgt:1<f)
   (IN:∀ w,But [] W0 w→Calls prog 56 #[.int .i64 1] w fun e w'=>∃ v,e=.returned v∧(∃ y,v=.pointer (some ⟨y,0,none⟩)∧zx w' y 1)∧But [] w w')
   (CM:∀ w y,But [] W0 w→zx w y 1→Calls prog 62 #[.pointer (some ⟨zb,0,none⟩),.pointer (some ⟨y,0,none⟩)] w fun e w'=>∃ v,e=.returned v∧(∃ c:Int,v=.int .i64 c∧(0<c↔1<f))∧But [] w w')
   (hQ:∀ w (v11:Value) (v12:Value),But [] W0 w→Q .normal (bi base [(100,.pointer (some ⟨g1,0,none⟩)),(101,.int .i64 1),(102,.bool true),(103,.bool true),(104,.pointer (some ⟨g1,1,none⟩)),(105,.pointer (some ⟨zb,0,none⟩)),(106,.int .i64 sg),(107,.bool false),(108,.bool false),(109,.pointer (some ⟨g1,1,none⟩)),(110,.pointer (some ⟨zb,0,none⟩)),(111,v11),(112,v12),(113,.bool true),(114,.bool true),(115,.bool true),(116,.bool true),(117,undef),(118,undef),(119,undef),(120,undef),(121,undef),(122,undef),(123,undef),(124,undef),(125,undef),(126,undef),(127,undef),(128,undef),(129,undef),(130,.bool true),(131,.bool true),(132,undef),(133,.bool true)]) w) :
   (Code.region id za true).wp prog Q base W0:=by(
 have hdr:∀ {w},But [] W0.drew w→But [] W0 w:=fun h=>(But.refl _ _).drew.trans' h
 have hT:∀ i,i<34→zhr i<base.tmps.size:=fun i hi=>by
  have h:zhr i≤133:=by revert i;decide
  omega
 have hCb:∀ i w w' v,i<34→But [] w w'→zuw g1 zb f sg li bd i w v→zuw g1 zb f sg li bd i w' v:=fun i w w' v hi hb h=>by
  have:i=0∨i=1∨i=2∨i=3∨i=4∨i=5∨i=6∨i=7∨i=8∨i=9∨i=10∨i=11∨i=12∨i=13∨i=14∨i=15∨i=16∨i=17∨i=18∨i=19∨i=20∨i=21∨i=22∨i=23∨i=24∨i=25∨i=26∨i=27∨i=28∨i=29∨i=30∨i=31∨i=32∨i=33:=by omega
  rcases this with rfl|rfl|rfl|rfl|rfl|rfl|rfl|rfl|rfl|rfl|rfl|rfl|rfl|rfl|rfl|rfl|rfl|rfl|rfl|rfl|rfl|rfl|rfl|rfl|rfl|rfl|rfl|rfl|rfl|rfl|rfl|rfl|rfl|rfl
  ·exact (show v=.pointer (some ⟨g1,0,none⟩) from h)
  ·exact (show v=.int .i64 1 from h)
  ·exact (show v=.bool true from h)
  ·exact (show v=.bool true from h)
  ·exact (show v=.pointer (some ⟨g1,1,none⟩) from h)
  ·exact (show v=.pointer (some ⟨zb,0,none⟩) from h)
  ·exact (show v=.int .i64 sg from h)
  ·exact (show v=.bool false from h)
  ·exact (show v=.bool false from h)
  ·exact (show v=.pointer (some ⟨g1,1,none⟩) from h)
  ·exact (show v=.pointer (some ⟨zb,0,none⟩) from h)
  ·exact (show ∃ y,v=.pointer (some ⟨y,0,none⟩)∧zx w y 1 from h).elim fun y ⟨e,r⟩=>⟨y,e,r.but hb⟩
  ·exact (show ∃ c:Int,v=.int .i64 c∧(0<c↔1<f) from h)
  ·exact (show v=.bool true from h)
  ·exact (show v=.bool true from h)
  ·exact (show v=.bool true from h)
  ·exact (show v=.bool true from h)
  ·exact (show v=undef from h)
  ·exact (show v=undef from h)
  ·exact (show v=undef from h)
  ·exact (show v=undef from h)
  ·exact (show v=undef from h)
  ·exact (show v=undef from h)
  ·exact (show v=undef from h)
  ·exact (show v=undef from h)
  ·exact (show v=undef from h)
  ·exact (show v=undef from h)
  ·exact (show v=undef from h)
  ·exact (show v=undef from h)
  ·exact (show v=undef from h)
  ·exact (show v=.bool true from h)
  ·exact (show v=.bool true from h)
  ·exact (show v=undef from h)
  ·exact (show v=.bool true from h)
 refine ji (by kernel_rfl) (di (by kernel_rfl)) (zuw g1 zb f sg li bd) zhr (by kernel_rfl) qgz ?_ ?_ ?_ zww hT (fun i w w' v hi h hb=>hCb i w w' v hi hb h) ?_ ?_
 ·(
 intro i o j want ho hg w v hv
 have hi:i<34:=(Array.getElem?_eq_some_iff.1 ho).1
 have:i=0∨i=1∨i=2∨i=3∨i=4∨i=5∨i=6∨i=7∨i=8∨i=9∨i=10∨i=11∨i=12∨i=13∨i=14∨i=15∨i=16∨i=17∨i=18∨i=19∨i=20∨i=21∨i=22∨i=23∨i=24∨i=25∨i=26∨i=27∨i=28∨i=29∨i=30∨i=31∨i=32∨i=33:=by omega
 rcases this with rfl|rfl|rfl|rfl|rfl|rfl|rfl|rfl|rfl|rfl|rfl|rfl|rfl|rfl|rfl|rfl|rfl|rfl|rfl|rfl|rfl|rfl|rfl|rfl|rfl|rfl|rfl|rfl|rfl|rfl|rfl|rfl|rfl|rfl
 ·obtain rfl:=so (show za[0]? =some p8 from rfl) ho
  exact absurd (show (none:Option (Nat × Bool))=some (j,want) from hg) (by simp)
 ·obtain rfl:=so (show za[1]? =some pz from rfl) ho
  exact absurd (show (none:Option (Nat × Bool))=some (j,want) from hg) (by simp)
 ·obtain rfl:=so (show za[2]? =some pu from rfl) ho
  exact absurd (show (none:Option (Nat × Bool))=some (j,want) from hg) (by simp)
 ·obtain rfl:=so (show za[3]? =some pg from rfl) ho
  exact absurd (show (none:Option (Nat × Bool))=some (j,want) from hg) (by simp)
 ·obtain rfl:=so (show za[4]? =some o9 from rfl) ho
  obtain⟨rfl,rfl⟩:=Prod.mk.inj (Option.some.inj (show some (3,true)=some (j,want) from hg))
  exact⟨fun h=>absurd (show false=true from h) (by simp),fun _=>hv⟩
 ·obtain rfl:=so (show za[5]? =some o8 from rfl) ho
  obtain⟨rfl,rfl⟩:=Prod.mk.inj (Option.some.inj (show some (3,true)=some (j,want) from hg))
  exact⟨fun h=>absurd (show false=true from h) (by simp),fun _=>hv⟩
 ·obtain rfl:=so (show za[6]? =some o7 from rfl) ho
  obtain⟨rfl,rfl⟩:=Prod.mk.inj (Option.some.inj (show some (3,true)=some (j,want) from hg))
  exact⟨fun h=>absurd (show false=true from h) (by simp),fun _=>hv⟩
 ·obtain rfl:=so (show za[7]? =some oz from rfl) ho
  obtain⟨rfl,rfl⟩:=Prod.mk.inj (Option.some.inj (show some (3,true)=some (j,want) from hg))
  exact⟨fun h=>absurd (show false=true from h) (by simp),fun _=>hv⟩
 ·obtain rfl:=so (show za[8]? =some ow from rfl) ho
  obtain⟨rfl,rfl⟩:=Prod.mk.inj (Option.some.inj (show some (3,true)=some (j,want) from hg))
  exact⟨fun h=>absurd (show false=true from h) (by simp),fun _=>hv⟩
 ·obtain rfl:=so (show za[9]? =some ou from rfl) ho
  obtain⟨rfl,rfl⟩:=Prod.mk.inj (Option.some.inj (show some (8,false)=some (j,want) from hg))
  exact⟨fun h=>absurd (show false=true from h) (by simp),fun _=>hv⟩
 ·obtain rfl:=so (show za[10]? =some wu from rfl) ho
  obtain⟨rfl,rfl⟩:=Prod.mk.inj (Option.some.inj (show some (8,false)=some (j,want) from hg))
  exact⟨fun h=>absurd (show false=true from h) (by simp),fun _=>hv⟩
 ·obtain rfl:=so (show za[11]? =some wh from rfl) ho
  obtain⟨rfl,rfl⟩:=Prod.mk.inj (Option.some.inj (show some (8,false)=some (j,want) from hg))
  exact⟨fun h=>absurd (show false=true from h) (by simp),fun _=>hv⟩
 ·obtain rfl:=so (show za[12]? =some y9 from rfl) ho
  obtain⟨rfl,rfl⟩:=Prod.mk.inj (Option.some.inj (show some (8,false)=some (j,want) from hg))
  exact⟨fun h=>absurd (show false=true from h) (by simp),fun _=>hv⟩
 ·obtain rfl:=so (show za[13]? =some y8 from rfl) ho
  obtain⟨rfl,rfl⟩:=Prod.mk.inj (Option.some.inj (show some (8,false)=some (j,want) from hg))
  exact⟨fun h=>absurd (show false=true from h) (by simp),fun _=>hv⟩
 ·obtain rfl:=so (show za[14]? =some y7 from rfl) ho
  obtain⟨rfl,rfl⟩:=Prod.mk.inj (Option.some.inj (show some (3,true)=some (j,want) from hg))
  exact⟨fun h=>absurd (show false=true from h) (by simp),fun _=>hv⟩
 ·obtain rfl:=so (show za[15]? =some yx from rfl) ho
  exact absurd (show (none:Option (Nat × Bool))=some (j,want) from hg) (by simp)
 ·obtain rfl:=so (show za[16]? =some yw from rfl) ho
  exact absurd (show (none:Option (Nat × Bool))=some (j,want) from hg) (by simp)
 ·obtain rfl:=so (show za[17]? =some yu from rfl) ho
  obtain⟨rfl,rfl⟩:=Prod.mk.inj (Option.some.inj (show some (16,false)=some (j,want) from hg))
  exact⟨fun _=>.inr hv,fun h=>absurd (show true=false from h) (by simp)⟩
 ·obtain rfl:=so (show za[18]? =some yt from rfl) ho
  obtain⟨rfl,rfl⟩:=Prod.mk.inj (Option.some.inj (show some (16,false)=some (j,want) from hg))
  exact⟨fun _=>.inr hv,fun h=>absurd (show true=false from h) (by simp)⟩
 ·obtain rfl:=so (show za[19]? =some yo from rfl) ho
  obtain⟨rfl,rfl⟩:=Prod.mk.inj (Option.some.inj (show some (16,false)=some (j,want) from hg))
  exact⟨fun _=>.inr hv,fun h=>absurd (show true=false from h) (by simp)⟩
 ·obtain rfl:=so (show za[20]? =some yj from rfl) ho
  obtain⟨rfl,rfl⟩:=Prod.mk.inj (Option.some.inj (show some (16,false)=some (j,want) from hg))
  exact⟨fun _=>.inr hv,fun h=>absurd (show true=false from h) (by simp)⟩
 ·obtain rfl:=so (show za[21]? =some yh from rfl) ho
  obtain⟨rfl,rfl⟩:=Prod.mk.inj (Option.some.inj (show some (20,false)=some (j,want) from hg))
  exact⟨fun _=>.inl hv,fun h=>absurd (show true=false from h) (by simp)⟩
 ·obtain rfl:=so (show za[22]? =some yg from rfl) ho
  obtain⟨rfl,rfl⟩:=Prod.mk.inj (Option.some.inj (show some (20,false)=some (j,want) from hg))
  exact⟨fun _=>.inl hv,fun h=>absurd (show true=false from h) (by simp)⟩
 ·obtain rfl:=so (show za[23]? =some yc from rfl) ho
  obtain⟨rfl,rfl⟩:=Prod.mk.inj (Option.some.inj (show some (20,false)=some (j,want) from hg))
  exact⟨fun _=>.inl hv,fun h=>absurd (show true=false from h) (by simp)⟩
 ·obtain rfl:=so (show za[24]? =some vz from rfl) ho
  obtain⟨rfl,rfl⟩:=Prod.mk.inj (Option.some.inj (show some (16,false)=some (j,want) from hg))
  exact⟨fun _=>.inr hv,fun h=>absurd (show true=false from h) (by simp)⟩
 ·obtain rfl:=so (show za[25]? =some vw from rfl) ho
  obtain⟨rfl,rfl⟩:=Prod.mk.inj (Option.some.inj (show some (16,false)=some (j,want) from hg))
  exact⟨fun _=>.inr hv,fun h=>absurd (show true=false from h) (by simp)⟩
 ·obtain rfl:=so (show za[26]? =some vv from rfl) ho
  obtain⟨rfl,rfl⟩:=Prod.mk.inj (Option.some.inj (show some (25,true)=some (j,want) from hg))
  exact⟨fun _=>.inl hv,fun h=>absurd (show true=false from h) (by simp)⟩
 ·obtain rfl:=so (show za[27]? =some ve from rfl) ho
  obtain⟨rfl,rfl⟩:=Prod.mk.inj (Option.some.inj (show some (25,true)=some (j,want) from hg))
  exact⟨fun _=>.inl hv,fun h=>absurd (show true=false from h) (by simp)⟩
 ·obtain rfl:=so (show za[28]? =some kz from rfl) ho
  obtain⟨rfl,rfl⟩:=Prod.mk.inj (Option.some.inj (show some (25,true)=some (j,want) from hg))
  exact⟨fun _=>.inl hv,fun h=>absurd (show true=false from h) (by simp)⟩
 ·obtain rfl:=so (show za[29]? =some ky from rfl) ho
  obtain⟨rfl,rfl⟩:=Prod.mk.inj (Option.some.inj (show some (16,false)=some (j,want) from hg))
  exact⟨fun _=>.inr hv,fun h=>absurd (show true=false from h) (by simp)⟩
 ·obtain rfl:=so (show za[30]? =some kw from rfl) ho
  exact absurd (show (none:Option (Nat × Bool))=some (j,want) from hg) (by simp)
 ·obtain rfl:=so (show za[31]? =some kv from rfl) ho
  exact absurd (show (none:Option (Nat × Bool))=some (j,want) from hg) (by simp)
 ·obtain rfl:=so (show za[32]? =some ku from rfl) ho
  obtain⟨rfl,rfl⟩:=Prod.mk.inj (Option.some.inj (show some (31,false)=some (j,want) from hg))
  exact⟨fun _=>.inr hv,fun h=>absurd (show true=false from h) (by simp)⟩
 ·obtain rfl:=so (show za[33]? =some kr from rfl) ho
  exact absurd (show (none:Option (Nat × Bool))=some (j,want) from hg) (by simp))
 ·(
 intro i o ho hk hg
 have hi:i<34:=(Array.getElem?_eq_some_iff.1 ho).1
 have:i=0∨i=1∨i=2∨i=3∨i=4∨i=5∨i=6∨i=7∨i=8∨i=9∨i=10∨i=11∨i=12∨i=13∨i=14∨i=15∨i=16∨i=17∨i=18∨i=19∨i=20∨i=21∨i=22∨i=23∨i=24∨i=25∨i=26∨i=27∨i=28∨i=29∨i=30∨i=31∨i=32∨i=33:=by omega
 rcases this with rfl|rfl|rfl|rfl|rfl|rfl|rfl|rfl|rfl|rfl|rfl|rfl|rfl|rfl|rfl|rfl|rfl|rfl|rfl|rfl|rfl|rfl|rfl|rfl|rfl|rfl|rfl|rfl|rfl|rfl|rfl|rfl|rfl|rfl
 ·exact absurd (show false=true from hk) (by simp)
 ·exact absurd (show false=true from hk) (by simp)
 ·exact absurd (show false=true from hk) (by simp)
 ·exact absurd (show false=true from hk) (by simp)
 ·exact absurd (show false=true from hk) (by simp)
 ·exact absurd (show false=true from hk) (by simp)
 ·exact absurd (show false=true from hk) (by simp)
 ·exact absurd (show false=true from hk) (by simp)
 ·exact absurd (show false=true from hk) (by simp)
 ·exact absurd (show false=true from hk) (by simp)
 ·exact absurd (show false=true from hk) (by simp)
 ·exact absurd (show false=true from hk) (by simp)
 ·exact absurd (show false=true from hk) (by simp)
 ·exact absurd (show false=true from hk) (by simp)
 ·exact absurd (show false=true from hk) (by simp)
 ·exact absurd (show false=true from hk) (by simp)
 ·exact absurd (show false=true from hk) (by simp)
 ·obtain rfl:=so (show za[17]? =some yu from rfl) ho
  exact absurd (show some (16,false)=(none:Option (Nat × Bool)) from hg) (by simp)
 ·obtain rfl:=so (show za[18]? =some yt from rfl) ho
  exact absurd (show some (16,false)=(none:Option (Nat × Bool)) from hg) (by simp)
 ·obtain rfl:=so (show za[19]? =some yo from rfl) ho
  exact absurd (show some (16,false)=(none:Option (Nat × Bool)) from hg) (by simp)
 ·obtain rfl:=so (show za[20]? =some yj from rfl) ho
  exact absurd (show some (16,false)=(none:Option (Nat × Bool)) from hg) (by simp)
 ·obtain rfl:=so (show za[21]? =some yh from rfl) ho
  exact absurd (show some (20,false)=(none:Option (Nat × Bool)) from hg) (by simp)
 ·obtain rfl:=so (show za[22]? =some yg from rfl) ho
  exact absurd (show some (20,false)=(none:Option (Nat × Bool)) from hg) (by simp)
 ·obtain rfl:=so (show za[23]? =some yc from rfl) ho
  exact absurd (show some (20,false)=(none:Option (Nat × Bool)) from hg) (by simp)
 ·obtain rfl:=so (show za[24]? =some vz from rfl) ho
  exact absurd (show some (16,false)=(none:Option (Nat × Bool)) from hg) (by simp)
 ·obtain rfl:=so (show za[25]? =some vw from rfl) ho
  exact absurd (show some (16,false)=(none:Option (Nat × Bool)) from hg) (by simp)
 ·obtain rfl:=so (show za[26]? =some vv from rfl) ho
  exact absurd (show some (25,true)=(none:Option (Nat × Bool)) from hg) (by simp)
 ·obtain rfl:=so (show za[27]? =some ve from rfl) ho
  exact absurd (show some (25,true)=(none:Option (Nat × Bool)) from hg) (by simp)
 ·obtain rfl:=so (show za[28]? =some kz from rfl) ho
  exact absurd (show some (25,true)=(none:Option (Nat × Bool)) from hg) (by simp)
 ·obtain rfl:=so (show za[29]? =some ky from rfl) ho
  exact absurd (show some (16,false)=(none:Option (Nat × Bool)) from hg) (by simp)
 ·exact absurd (show false=true from hk) (by simp)
 ·exact absurd (show false=true from hk) (by simp)
 ·obtain rfl:=so (show za[32]? =some ku from rfl) ho
  exact absurd (show some (31,false)=(none:Option (Nat × Bool)) from hg) (by simp)
 ·exact absurd (show false=true from hk) (by simp))
 ·(
 intro i w hk
 by_cases hi:i<34
 ·(
 have:i=0∨i=1∨i=2∨i=3∨i=4∨i=5∨i=6∨i=7∨i=8∨i=9∨i=10∨i=11∨i=12∨i=13∨i=14∨i=15∨i=16∨i=17∨i=18∨i=19∨i=20∨i=21∨i=22∨i=23∨i=24∨i=25∨i=26∨i=27∨i=28∨i=29∨i=30∨i=31∨i=32∨i=33:=by omega
 rcases this with rfl|rfl|rfl|rfl|rfl|rfl|rfl|rfl|rfl|rfl|rfl|rfl|rfl|rfl|rfl|rfl|rfl|rfl|rfl|rfl|rfl|rfl|rfl|rfl|rfl|rfl|rfl|rfl|rfl|rfl|rfl|rfl|rfl|rfl
 ·exact absurd (show false=true from hk) (by simp)
 ·exact absurd (show false=true from hk) (by simp)
 ·exact absurd (show false=true from hk) (by simp)
 ·exact absurd (show false=true from hk) (by simp)
 ·exact absurd (show false=true from hk) (by simp)
 ·exact absurd (show false=true from hk) (by simp)
 ·exact absurd (show false=true from hk) (by simp)
 ·exact absurd (show false=true from hk) (by simp)
 ·exact absurd (show false=true from hk) (by simp)
 ·exact absurd (show false=true from hk) (by simp)
 ·exact absurd (show false=true from hk) (by simp)
 ·exact absurd (show false=true from hk) (by simp)
 ·exact absurd (show false=true from hk) (by simp)
 ·exact absurd (show false=true from hk) (by simp)
 ·exact absurd (show false=true from hk) (by simp)
 ·exact absurd (show false=true from hk) (by simp)
 ·exact absurd (show false=true from hk) (by simp)
 ·exact (show undef=undef from rfl)
 ·exact (show undef=undef from rfl)
 ·exact (show undef=undef from rfl)
 ·exact (show undef=undef from rfl)
 ·exact (show undef=undef from rfl)
 ·exact (show undef=undef from rfl)
 ·exact (show undef=undef from rfl)
 ·exact (show undef=undef from rfl)
 ·exact (show undef=undef from rfl)
 ·exact (show undef=undef from rfl)
 ·exact (show undef=undef from rfl)
 ·exact (show undef=undef from rfl)
 ·exact (show undef=undef from rfl)
 ·exact absurd (show false=true from hk) (by simp)
 ·exact absurd (show false=true from hk) (by simp)
 ·exact (show undef=undef from rfl)
 ·exact absurd (show false=true from hk) (by simp))
 ·(
 exfalso
 unfold qgz at hk
 split at hk
 ·omega
 ·omega
 ·omega
 ·omega
 ·omega
 ·omega
 ·omega
 ·omega
 ·omega
 ·omega
 ·omega
 ·omega
 ·omega
 ·omega
 ·simp at hk))
 ·(
 intro i o a w K hki ho hH he hdep hk
 have hi:i<34:=(Array.getElem?_eq_some_iff.1 ho).1
 have hD:=jq (ps:=[(1,0),(2,1),(3,2),(4,3),(5,3),(5,4),(6,3),(6,5),(7,3),(7,6),(8,3),(8,6),(8,7),(9,8),(10,8),(10,9),(11,8),(12,8),(12,10),(12,11),(13,8),(13,12),(14,3),(14,8),(14,13),(15,3),(15,14),(16,12),(16,15),(17,16),(18,16),(18,17),(19,16),(19,18),(20,16),(20,19),(21,20),(22,20),(22,21),(23,20),(23,22),(24,16),(24,20),(24,23),(25,16),(25,20),(25,24),(26,25),(27,25),(27,26),(28,25),(28,27),(29,16),(29,25),(29,28),(30,16),(30,29),(31,25),(31,30),(32,31),(33,31),(33,32)]) (by kernel_rfl) ho (fun j=>zuw g1 zb f sg li bd j w (a.eval (.tmp (zhr j)))) hdep
 have e1':=(he 1 (fun j hj e=>absurd e.symm (by revert j;decide))).trans e1
 have e6':=(he 6 (fun j hj e=>absurd e.symm (by revert j;decide))).trans e6
 have:i=0∨i=1∨i=2∨i=3∨i=4∨i=5∨i=6∨i=7∨i=8∨i=9∨i=10∨i=11∨i=12∨i=13∨i=14∨i=15∨i=16∨i=17∨i=18∨i=19∨i=20∨i=21∨i=22∨i=23∨i=24∨i=25∨i=26∨i=27∨i=28∨i=29∨i=30∨i=31∨i=32∨i=33:=by omega
 rcases this with rfl|rfl|rfl|rfl|rfl|rfl|rfl|rfl|rfl|rfl|rfl|rfl|rfl|rfl|rfl|rfl|rfl|rfl|rfl|rfl|rfl|rfl|rfl|rfl|rfl|rfl|rfl|rfl|rfl|rfl|rfl|rfl|rfl|rfl
 ·obtain rfl:=so (show za[0]? =some p8 from rfl) ho
  exact al (je a w _ _ _ _ _ _ g1 e1') (hk _ _ (But.refl _ _) rfl)
 ·obtain rfl:=so (show za[1]? =some pz from rfl) ho
  exact al (z8 a w _ _ _ _ _ _ g1 0 _ (hD 0 (by simp)) ((hdr hH).ag c0 (by simp))) (hk _ _ (But.refl _ _) rfl)
 ·obtain rfl:=so (show za[2]? =some pu from rfl) ho
  exact al (jf a w _ _ _ _ _ _ 1 1 true rfl (hD 1 (by simp))) (hk _ _ (But.refl _ _) rfl)
 ·obtain rfl:=so (show za[3]? =some pg from rfl) ho
  exact al (br a w _ _ _ _ _ _ _ (hD 2 (by simp))) (hk _ _ (But.refl _ _) rfl)
 ·obtain rfl:=so (show za[4]? =some o9 from rfl) ho
  exact al (zew a w _ _ _ _ _ _ g1 e1') (hk _ _ (But.refl _ _) rfl)
 ·obtain rfl:=so (show za[5]? =some o8 from rfl) ho
  exact al (zex a w _ _ _ _ _ _ g1 1 _ (hD 4 (by simp)) ((hdr hH).ag c1 (by simp))) (hk _ _ (But.refl _ _) rfl)
 ·obtain rfl:=so (show za[6]? =some o7 from rfl) ho
  exact aw (zns a w _ _ _ _ _ _ _ (hD 5 (by simp))) (R:=fun w' v=>But [] w w'∧v=_) ((SG w (hdr hH)).mono fun e w' ⟨he,hb⟩=>⟨_,he,hb,rfl⟩) (fun v w' hv=>hk v w' hv.1 hv.2)
 ·obtain rfl:=so (show za[7]? =some oz from rfl) ho
  exact al (zbt a w _ _ _ _ _ _ sg 0 false (decide_eq_false hsg).symm (hD 6 (by simp))) (hk _ _ (But.refl _ _) rfl)
 ·obtain rfl:=so (show za[8]? =some ow from rfl) ho
  exact al (br a w _ _ _ _ _ _ _ (hD 7 (by simp))) (hk _ _ (But.refl _ _) rfl)
 ·obtain rfl:=so (show za[9]? =some ou from rfl) ho
  exact al (zew a w _ _ _ _ _ _ g1 e1') (hk _ _ (But.refl _ _) rfl)
 ·obtain rfl:=so (show za[10]? =some wu from rfl) ho
  exact al (zex a w _ _ _ _ _ _ g1 1 _ (hD 9 (by simp)) ((hdr hH).ag c1 (by simp))) (hk _ _ (But.refl _ _) rfl)
 ·obtain rfl:=so (show za[11]? =some wh from rfl) ho
  exact aw (zmp a w _ _ _ _ _) (R:=fun w' v=>(∃ y,v=.pointer (some ⟨y,0,none⟩)∧zx w' y 1)∧But [] w w') (IN w (hdr hH)) (fun v w' hv=>hk v w' hv.2 hv.1)
 ·obtain rfl:=so (show za[12]? =some y9 from rfl) ho
  obtain⟨y,hy,hr⟩:=hD 11 (by simp)
  exact aw (zug a w _ _ _ _ _ _ _ _ _ (hD 10 (by simp)) hy) (R:=fun w' v=>(∃ c:Int,v=.int .i64 c∧(0<c↔1<f))∧But [] w w') (CM w y (hdr hH) hr) (fun v w' hv=>hk v w' hv.2 hv.1)
 ·obtain rfl:=so (show za[13]? =some y8 from rfl) ho
  obtain⟨c,hc,hcc⟩:=hD 12 (by simp)
  exact al (zuf a w _ _ _ _ _ _ c 0 true (decide_eq_true (hcc.2 hgt)).symm hc) (hk _ _ (But.refl _ _) rfl)
 ·obtain rfl:=so (show za[14]? =some y7 from rfl) ho
  exact al (qi a w _ _ _ _ _ _ _ false (.bool true) _ rfl (hD 8 (by simp)) (hD 13 (by simp))) (hk _ _ (But.refl _ _) rfl)
 ·obtain rfl:=so (show za[15]? =some yx from rfl) ho
  exact al (jh a w _ _ _ _ _ _ _ true (.bool true) _ rfl (hD 3 (by simp)) (hD 14 (by simp))) (hk _ _ (But.refl _ _) rfl)
 ·obtain rfl:=so (show za[16]? =some yw from rfl) ho
  exact al (br a w _ _ _ _ _ _ _ (hD 15 (by simp))) (hk _ _ (But.refl _ _) rfl)
 ·exact absurd (show true=false from hki) (by simp)
 ·exact absurd (show true=false from hki) (by simp)
 ·exact absurd (show true=false from hki) (by simp)
 ·exact absurd (show true=false from hki) (by simp)
 ·exact absurd (show true=false from hki) (by simp)
 ·exact absurd (show true=false from hki) (by simp)
 ·exact absurd (show true=false from hki) (by simp)
 ·exact absurd (show true=false from hki) (by simp)
 ·exact absurd (show true=false from hki) (by simp)
 ·exact absurd (show true=false from hki) (by simp)
 ·exact absurd (show true=false from hki) (by simp)
 ·exact absurd (show true=false from hki) (by simp)
 ·exact absurd (show true=false from hki) (by simp)
 ·obtain rfl:=so (show za[30]? =some kw from rfl) ho
  exact al (qi a w _ _ _ _ _ _ _ true (undef) _ rfl (hD 16 (by simp)) (hD 29 (by simp))) (hk _ _ (But.refl _ _) rfl)
 ·obtain rfl:=so (show za[31]? =some kv from rfl) ho
  exact al (br a w _ _ _ _ _ _ _ (hD 30 (by simp))) (hk _ _ (But.refl _ _) rfl)
 ·exact absurd (show true=false from hki) (by simp)
 ·obtain rfl:=so (show za[33]? =some kr from rfl) ho
  exact al (qi a w _ _ _ _ _ _ _ true (undef) _ rfl (hD 31 (by simp)) (hD 32 (by simp))) (hk _ _ (But.refl _ _) rfl))
 ·(
 intro a w h
 have ea:=h.puts hT (fun i=>match i with
  | 0=>.pointer (some ⟨g1,0,none⟩)
  | 1=>.int .i64 1
  | 2=>.bool true
  | 3=>.bool true
  | 4=>.pointer (some ⟨g1,1,none⟩)
  | 5=>.pointer (some ⟨zb,0,none⟩)
  | 6=>.int .i64 sg
  | 7=>.bool false
  | 8=>.bool false
  | 9=>.pointer (some ⟨g1,1,none⟩)
  | 10=>.pointer (some ⟨zb,0,none⟩)
  | 11=>a.eval (.tmp 111)
  | 12=>a.eval (.tmp 112)
  | 13=>.bool true
  | 14=>.bool true
  | 15=>.bool true
  | 16=>.bool true
  | 17=>undef
  | 18=>undef
  | 19=>undef
  | 20=>undef
  | 21=>undef
  | 22=>undef
  | 23=>undef
  | 24=>undef
  | 25=>undef
  | 26=>undef
  | 27=>undef
  | 28=>undef
  | 29=>undef
  | 30=>.bool true
  | 31=>.bool true
  | 32=>undef
  | _=>.bool true) (fun i hi=>by
  have hi':i<34:=hi
  have hc:=h.has i hi rfl
  have:i=0∨i=1∨i=2∨i=3∨i=4∨i=5∨i=6∨i=7∨i=8∨i=9∨i=10∨i=11∨i=12∨i=13∨i=14∨i=15∨i=16∨i=17∨i=18∨i=19∨i=20∨i=21∨i=22∨i=23∨i=24∨i=25∨i=26∨i=27∨i=28∨i=29∨i=30∨i=31∨i=32∨i=33:=by omega
  rcases this with rfl|rfl|rfl|rfl|rfl|rfl|rfl|rfl|rfl|rfl|rfl|rfl|rfl|rfl|rfl|rfl|rfl|rfl|rfl|rfl|rfl|rfl|rfl|rfl|rfl|rfl|rfl|rfl|rfl|rfl|rfl|rfl|rfl|rfl
  all_goals first | exact hc|rfl)
 rw[ea]
 exact hQ w (a.eval (.tmp 111)) (a.eval (.tmp 112)) (hdr h.but)))
def zhq (i:Nat):Nat:=match i with
 | 0=>100
 | 1=>101
 | 2=>102
 | 3=>103
 | 4=>104
 | 5=>105
 | 6=>106
 | 7=>107
 | 8=>108
 | 9=>109
 | 10=>110
 | 11=>111
 | 12=>112
 | 13=>113
 | 14=>114
 | 15=>115
 | 16=>116
 | 17=>117
 | 18=>118
 | 19=>119
 | 20=>120
 | 21=>121
 | 22=>122
 | 23=>123
 | 24=>124
 | 25=>125
 | 26=>126
 | 27=>127
 | 28=>128
 | 29=>129
 | 30=>130
 | 31=>131
 | 32=>132
 | _=>133
def zuv (g1:Nat) (zb:Nat) (f:Rat) (sg:Int) (li:Int) (bd:Bool) (i:Nat) (w:World) (v:Value):Prop:=match i with
 | 0=>v=.pointer (some ⟨g1,0,none⟩)
 | 1=>v=.int .i64 1
 | 2=>v=.bool true
 | 3=>v=.bool true
 | 4=>v=.pointer (some ⟨g1,1,none⟩)
 | 5=>v=.pointer (some ⟨zb,0,none⟩)
 | 6=>v=.int .i64 sg
 | 7=>v=.bool false
 | 8=>v=.bool false
 | 9=>v=.pointer (some ⟨g1,1,none⟩)
 | 10=>v=.pointer (some ⟨zb,0,none⟩)
 | 11=>∃ y,v=.pointer (some ⟨y,0,none⟩)∧zx w y 1
 | 12=>∃ c:Int,v=.int .i64 c∧(0<c↔1<f)
 | 13=>v=.bool false
 | 14=>v=.bool false
 | 15=>v=.bool false
 | 16=>v=.bool false
 | 17=>v=.pointer (some ⟨g1,0,none⟩)
 | 18=>v=.int .i64 1
 | 19=>v=.bool false
 | 20=>v=.bool false
 | 21=>v=.pointer (some ⟨g1,0,none⟩)
 | 22=>v=.int .i64 1
 | 23=>v=.bool false
 | 24=>v=.bool false
 | 25=>v=.bool false
 | 26=>v=undef
 | 27=>v=undef
 | 28=>v=undef
 | 29=>v=.bool false
 | 30=>v=.bool false
 | 31=>v=.bool false
 | 32=>v=.bool bd
 | _=>v=.bool bd
def qgy (i:Nat):Bool:=match i with
 | 26=>true
 | 27=>true
 | 28=>true
 | _=>false
theorem zwv:∀ i j,i<34→j<34→zhq i=zhq j→i=j:=fun i j hi hj=>(by decide:∀ i,i<34→∀ j,j<34→zhq i=zhq j→i=j) i hi j hj
theorem zcu (id:Nat) (Q:Exit→Act→World→Prop) (base:Act) (W0:World) (g1:Nat) (zb:Nat) (f:Rat) (sg:Int) (li:Int) (bd:Bool) (hs:133<base.tmps.size) (e1:base.eval (.tmp 1)=.pointer (some ⟨g1,0,none⟩)) (e6:base.eval (.tmp 6)=.bool bd)
   (c0:W0.cell? ⟨g1,0,none⟩=some (.int .i64 1)) (c1:W0.cell? ⟨g1,1,none⟩=some (.pointer (some ⟨zb,0,none⟩))) (hsg:¬ sg<0)
   (SG:∀ w,But [] W0 w→Calls prog 95 #[.pointer (some ⟨zb,0,none⟩)] w fun e w'=>e=.returned (.int .i64 sg)∧But [] w w') (hgt:¬ 1<f)
   (IN:∀ w,But [] W0 w→Calls prog 56 #[.int .i64 1] w fun e w'=>∃ v,e=.returned v∧(∃ y,v=.pointer (some ⟨y,0,none⟩)∧zx w' y 1)∧But [] w w')
   (CM:∀ w y,But [] W0 w→zx w y 1→Calls prog 62 #[.pointer (some ⟨zb,0,none⟩),.pointer (some ⟨y,0,none⟩)] w fun e w'=>∃ v,e=.returned v∧(∃ c:Int,v=.int .i64 c∧(0<c↔1<f))∧But [] w w')
   (hQ:∀ w (v11:Value) (v12:Value),But [] W0 w→Q .normal (bi base [(100,.pointer (some ⟨g1,0,none⟩)),(101,.int .i64 1),(102,.bool true),(103,.bool true),(104,.pointer (some ⟨g1,1,none⟩)),(105,.pointer (some ⟨zb,0,none⟩)),(106,.int .i64 sg),(107,.bool false),(108,.bool false),(109,.pointer (some ⟨g1,1,none⟩)),(110,.pointer (some ⟨zb,0,none⟩)),(111,v11),(112,v12),(113,.bool false),(114,.bool false),(115,.bool false),(116,.bool false),(117,.pointer (some ⟨g1,0,none⟩)),(118,.int .i64 1),(119,.bool false),(120,.bool false),(121,.pointer (some ⟨g1,0,none⟩)),(122,.int .i64 1),(123,.bool false),(124,.bool false),(125,.bool false),(126,undef),(127,undef),(128,undef),(129,.bool false),(130,.bool false),(131,.bool false),(132,.bool bd),(133,.bool bd)]) w) :
   (Code.region id za true).wp prog Q base W0:=by(
 have hdr:∀ {w},But [] W0.drew w→But [] W0 w:=fun h=>(But.refl _ _).drew.trans' h
 have hT:∀ i,i<34→zhq i<base.tmps.size:=fun i hi=>by
  have h:zhq i≤133:=by revert i;decide
  omega
 have hCb:∀ i w w' v,i<34→But [] w w'→zuv g1 zb f sg li bd i w v→zuv g1 zb f sg li bd i w' v:=fun i w w' v hi hb h=>by
  have:i=0∨i=1∨i=2∨i=3∨i=4∨i=5∨i=6∨i=7∨i=8∨i=9∨i=10∨i=11∨i=12∨i=13∨i=14∨i=15∨i=16∨i=17∨i=18∨i=19∨i=20∨i=21∨i=22∨i=23∨i=24∨i=25∨i=26∨i=27∨i=28∨i=29∨i=30∨i=31∨i=32∨i=33:=by omega
  rcases this with rfl|rfl|rfl|rfl|rfl|rfl|rfl|rfl|rfl|rfl|rfl|rfl|rfl|rfl|rfl|rfl|rfl|rfl|rfl|rfl|rfl|rfl|rfl|rfl|rfl|rfl|rfl|rfl|rfl|rfl|rfl|rfl|rfl|rfl
  ·exact (show v=.pointer (some ⟨g1,0,none⟩) from h)
  ·exact (show v=.int .i64 1 from h)
  ·exact (show v=.bool true from h)
  ·exact (show v=.bool true from h)
  ·exact (show v=.pointer (some ⟨g1,1,none⟩) from h)
  ·exact (show v=.pointer (some ⟨zb,0,none⟩) from h)
  ·exact (show v=.int .i64 sg from h)
  ·exact (show v=.bool false from h)
  ·exact (show v=.bool false from h)
  ·exact (show v=.pointer (some ⟨g1,1,none⟩) from h)
  ·exact (show v=.pointer (some ⟨zb,0,none⟩) from h)
  ·exact (show ∃ y,v=.pointer (some ⟨y,0,none⟩)∧zx w y 1 from h).elim fun y ⟨e,r⟩=>⟨y,e,r.but hb⟩
  ·exact (show ∃ c:Int,v=.int .i64 c∧(0<c↔1<f) from h)
  ·exact (show v=.bool false from h)
  ·exact (show v=.bool false from h)
  ·exact (show v=.bool false from h)
  ·exact (show v=.bool false from h)
  ·exact (show v=.pointer (some ⟨g1,0,none⟩) from h)
  ·exact (show v=.int .i64 1 from h)
  ·exact (show v=.bool false from h)
  ·exact (show v=.bool false from h)
  ·exact (show v=.pointer (some ⟨g1,0,none⟩) from h)
  ·exact (show v=.int .i64 1 from h)
  ·exact (show v=.bool false from h)
  ·exact (show v=.bool false from h)
  ·exact (show v=.bool false from h)
  ·exact (show v=undef from h)
  ·exact (show v=undef from h)
  ·exact (show v=undef from h)
  ·exact (show v=.bool false from h)
  ·exact (show v=.bool false from h)
  ·exact (show v=.bool false from h)
  ·exact (show v=.bool bd from h)
  ·exact (show v=.bool bd from h)
 refine ji (by kernel_rfl) (di (by kernel_rfl)) (zuv g1 zb f sg li bd) zhq (by kernel_rfl) qgy ?_ ?_ ?_ zwv hT (fun i w w' v hi h hb=>hCb i w w' v hi hb h) ?_ ?_
 ·(
 intro i o j want ho hg w v hv
 have hi:i<34:=(Array.getElem?_eq_some_iff.1 ho).1
 have:i=0∨i=1∨i=2∨i=3∨i=4∨i=5∨i=6∨i=7∨i=8∨i=9∨i=10∨i=11∨i=12∨i=13∨i=14∨i=15∨i=16∨i=17∨i=18∨i=19∨i=20∨i=21∨i=22∨i=23∨i=24∨i=25∨i=26∨i=27∨i=28∨i=29∨i=30∨i=31∨i=32∨i=33:=by omega
 rcases this with rfl|rfl|rfl|rfl|rfl|rfl|rfl|rfl|rfl|rfl|rfl|rfl|rfl|rfl|rfl|rfl|rfl|rfl|rfl|rfl|rfl|rfl|rfl|rfl|rfl|rfl|rfl|rfl|rfl|rfl|rfl|rfl|rfl|rfl
 ·obtain rfl:=so (show za[0]? =some p8 from rfl) ho
  exact absurd (show (none:Option (Nat × Bool))=some (j,want) from hg) (by simp)
 ·obtain rfl:=so (show za[1]? =some pz from rfl) ho
  exact absurd (show (none:Option (Nat × Bool))=some (j,want) from hg) (by simp)
 ·obtain rfl:=so (show za[2]? =some pu from rfl) ho
  exact absurd (show (none:Option (Nat × Bool))=some (j,want) from hg) (by simp)
 ·obtain rfl:=so (show za[3]? =some pg from rfl) ho
  exact absurd (show (none:Option (Nat × Bool))=some (j,want) from hg) (by simp)
 ·obtain rfl:=so (show za[4]? =some o9 from rfl) ho
  obtain⟨rfl,rfl⟩:=Prod.mk.inj (Option.some.inj (show some (3,true)=some (j,want) from hg))
  exact⟨fun h=>absurd (show false=true from h) (by simp),fun _=>hv⟩
 ·obtain rfl:=so (show za[5]? =some o8 from rfl) ho
  obtain⟨rfl,rfl⟩:=Prod.mk.inj (Option.some.inj (show some (3,true)=some (j,want) from hg))
  exact⟨fun h=>absurd (show false=true from h) (by simp),fun _=>hv⟩
 ·obtain rfl:=so (show za[6]? =some o7 from rfl) ho
  obtain⟨rfl,rfl⟩:=Prod.mk.inj (Option.some.inj (show some (3,true)=some (j,want) from hg))
  exact⟨fun h=>absurd (show false=true from h) (by simp),fun _=>hv⟩
 ·obtain rfl:=so (show za[7]? =some oz from rfl) ho
  obtain⟨rfl,rfl⟩:=Prod.mk.inj (Option.some.inj (show some (3,true)=some (j,want) from hg))
  exact⟨fun h=>absurd (show false=true from h) (by simp),fun _=>hv⟩
 ·obtain rfl:=so (show za[8]? =some ow from rfl) ho
  obtain⟨rfl,rfl⟩:=Prod.mk.inj (Option.some.inj (show some (3,true)=some (j,want) from hg))
  exact⟨fun h=>absurd (show false=true from h) (by simp),fun _=>hv⟩
 ·obtain rfl:=so (show za[9]? =some ou from rfl) ho
  obtain⟨rfl,rfl⟩:=Prod.mk.inj (Option.some.inj (show some (8,false)=some (j,want) from hg))
  exact⟨fun h=>absurd (show false=true from h) (by simp),fun _=>hv⟩
 ·obtain rfl:=so (show za[10]? =some wu from rfl) ho
  obtain⟨rfl,rfl⟩:=Prod.mk.inj (Option.some.inj (show some (8,false)=some (j,want) from hg))
  exact⟨fun h=>absurd (show false=true from h) (by simp),fun _=>hv⟩
 ·obtain rfl:=so (show za[11]? =some wh from rfl) ho
  obtain⟨rfl,rfl⟩:=Prod.mk.inj (Option.some.inj (show some (8,false)=some (j,want) from hg))
  exact⟨fun h=>absurd (show false=true from h) (by simp),fun _=>hv⟩
 ·obtain rfl:=so (show za[12]? =some y9 from rfl) ho
  obtain⟨rfl,rfl⟩:=Prod.mk.inj (Option.some.inj (show some (8,false)=some (j,want) from hg))
  exact⟨fun h=>absurd (show false=true from h) (by simp),fun _=>hv⟩
 ·obtain rfl:=so (show za[13]? =some y8 from rfl) ho
  obtain⟨rfl,rfl⟩:=Prod.mk.inj (Option.some.inj (show some (8,false)=some (j,want) from hg))
  exact⟨fun h=>absurd (show false=true from h) (by simp),fun _=>hv⟩
 ·obtain rfl:=so (show za[14]? =some y7 from rfl) ho
  obtain⟨rfl,rfl⟩:=Prod.mk.inj (Option.some.inj (show some (3,true)=some (j,want) from hg))
  exact⟨fun h=>absurd (show false=true from h) (by simp),fun _=>hv⟩
 ·obtain rfl:=so (show za[15]? =some yx from rfl) ho
  exact absurd (show (none:Option (Nat × Bool))=some (j,want) from hg) (by simp)
 ·obtain rfl:=so (show za[16]? =some yw from rfl) ho
  exact absurd (show (none:Option (Nat × Bool))=some (j,want) from hg) (by simp)
 ·obtain rfl:=so (show za[17]? =some yu from rfl) ho
  obtain⟨rfl,rfl⟩:=Prod.mk.inj (Option.some.inj (show some (16,false)=some (j,want) from hg))
  exact⟨fun h=>absurd (show false=true from h) (by simp),fun _=>hv⟩
 ·obtain rfl:=so (show za[18]? =some yt from rfl) ho
  obtain⟨rfl,rfl⟩:=Prod.mk.inj (Option.some.inj (show some (16,false)=some (j,want) from hg))
  exact⟨fun h=>absurd (show false=true from h) (by simp),fun _=>hv⟩
 ·obtain rfl:=so (show za[19]? =some yo from rfl) ho
  obtain⟨rfl,rfl⟩:=Prod.mk.inj (Option.some.inj (show some (16,false)=some (j,want) from hg))
  exact⟨fun h=>absurd (show false=true from h) (by simp),fun _=>hv⟩
 ·obtain rfl:=so (show za[20]? =some yj from rfl) ho
  obtain⟨rfl,rfl⟩:=Prod.mk.inj (Option.some.inj (show some (16,false)=some (j,want) from hg))
  exact⟨fun h=>absurd (show false=true from h) (by simp),fun _=>hv⟩
 ·obtain rfl:=so (show za[21]? =some yh from rfl) ho
  obtain⟨rfl,rfl⟩:=Prod.mk.inj (Option.some.inj (show some (20,false)=some (j,want) from hg))
  exact⟨fun h=>absurd (show false=true from h) (by simp),fun _=>hv⟩
 ·obtain rfl:=so (show za[22]? =some yg from rfl) ho
  obtain⟨rfl,rfl⟩:=Prod.mk.inj (Option.some.inj (show some (20,false)=some (j,want) from hg))
  exact⟨fun h=>absurd (show false=true from h) (by simp),fun _=>hv⟩
 ·obtain rfl:=so (show za[23]? =some yc from rfl) ho
  obtain⟨rfl,rfl⟩:=Prod.mk.inj (Option.some.inj (show some (20,false)=some (j,want) from hg))
  exact⟨fun h=>absurd (show false=true from h) (by simp),fun _=>hv⟩
 ·obtain rfl:=so (show za[24]? =some vz from rfl) ho
  obtain⟨rfl,rfl⟩:=Prod.mk.inj (Option.some.inj (show some (16,false)=some (j,want) from hg))
  exact⟨fun h=>absurd (show false=true from h) (by simp),fun _=>hv⟩
 ·obtain rfl:=so (show za[25]? =some vw from rfl) ho
  obtain⟨rfl,rfl⟩:=Prod.mk.inj (Option.some.inj (show some (16,false)=some (j,want) from hg))
  exact⟨fun h=>absurd (show false=true from h) (by simp),fun _=>hv⟩
 ·obtain rfl:=so (show za[26]? =some vv from rfl) ho
  obtain⟨rfl,rfl⟩:=Prod.mk.inj (Option.some.inj (show some (25,true)=some (j,want) from hg))
  exact⟨fun _=>.inr hv,fun h=>absurd (show true=false from h) (by simp)⟩
 ·obtain rfl:=so (show za[27]? =some ve from rfl) ho
  obtain⟨rfl,rfl⟩:=Prod.mk.inj (Option.some.inj (show some (25,true)=some (j,want) from hg))
  exact⟨fun _=>.inr hv,fun h=>absurd (show true=false from h) (by simp)⟩
 ·obtain rfl:=so (show za[28]? =some kz from rfl) ho
  obtain⟨rfl,rfl⟩:=Prod.mk.inj (Option.some.inj (show some (25,true)=some (j,want) from hg))
  exact⟨fun _=>.inr hv,fun h=>absurd (show true=false from h) (by simp)⟩
 ·obtain rfl:=so (show za[29]? =some ky from rfl) ho
  obtain⟨rfl,rfl⟩:=Prod.mk.inj (Option.some.inj (show some (16,false)=some (j,want) from hg))
  exact⟨fun h=>absurd (show false=true from h) (by simp),fun _=>hv⟩
 ·obtain rfl:=so (show za[30]? =some kw from rfl) ho
  exact absurd (show (none:Option (Nat × Bool))=some (j,want) from hg) (by simp)
 ·obtain rfl:=so (show za[31]? =some kv from rfl) ho
  exact absurd (show (none:Option (Nat × Bool))=some (j,want) from hg) (by simp)
 ·obtain rfl:=so (show za[32]? =some ku from rfl) ho
  obtain⟨rfl,rfl⟩:=Prod.mk.inj (Option.some.inj (show some (31,false)=some (j,want) from hg))
  exact⟨fun h=>absurd (show false=true from h) (by simp),fun _=>hv⟩
 ·obtain rfl:=so (show za[33]? =some kr from rfl) ho
  exact absurd (show (none:Option (Nat × Bool))=some (j,want) from hg) (by simp))
 ·(
 intro i o ho hk hg
 have hi:i<34:=(Array.getElem?_eq_some_iff.1 ho).1
 have:i=0∨i=1∨i=2∨i=3∨i=4∨i=5∨i=6∨i=7∨i=8∨i=9∨i=10∨i=11∨i=12∨i=13∨i=14∨i=15∨i=16∨i=17∨i=18∨i=19∨i=20∨i=21∨i=22∨i=23∨i=24∨i=25∨i=26∨i=27∨i=28∨i=29∨i=30∨i=31∨i=32∨i=33:=by omega
 rcases this with rfl|rfl|rfl|rfl|rfl|rfl|rfl|rfl|rfl|rfl|rfl|rfl|rfl|rfl|rfl|rfl|rfl|rfl|rfl|rfl|rfl|rfl|rfl|rfl|rfl|rfl|rfl|rfl|rfl|rfl|rfl|rfl|rfl|rfl
 ·exact absurd (show false=true from hk) (by simp)
 ·exact absurd (show false=true from hk) (by simp)
 ·exact absurd (show false=true from hk) (by simp)
 ·exact absurd (show false=true from hk) (by simp)
 ·exact absurd (show false=true from hk) (by simp)
 ·exact absurd (show false=true from hk) (by simp)
 ·exact absurd (show false=true from hk) (by simp)
 ·exact absurd (show false=true from hk) (by simp)
 ·exact absurd (show false=true from hk) (by simp)
 ·exact absurd (show false=true from hk) (by simp)
 ·exact absurd (show false=true from hk) (by simp)
 ·exact absurd (show false=true from hk) (by simp)
 ·exact absurd (show false=true from hk) (by simp)
 ·exact absurd (show false=true from hk) (by simp)
 ·exact absurd (show false=true from hk) (by simp)
 ·exact absurd (show false=true from hk) (by simp)
 ·exact absurd (show false=true from hk) (by simp)
 ·exact absurd (show false=true from hk) (by simp)
 ·exact absurd (show false=true from hk) (by simp)
 ·exact absurd (show false=true from hk) (by simp)
 ·exact absurd (show false=true from hk) (by simp)
 ·exact absurd (show false=true from hk) (by simp)
 ·exact absurd (show false=true from hk) (by simp)
 ·exact absurd (show false=true from hk) (by simp)
 ·exact absurd (show false=true from hk) (by simp)
 ·exact absurd (show false=true from hk) (by simp)
 ·obtain rfl:=so (show za[26]? =some vv from rfl) ho
  exact absurd (show some (25,true)=(none:Option (Nat × Bool)) from hg) (by simp)
 ·obtain rfl:=so (show za[27]? =some ve from rfl) ho
  exact absurd (show some (25,true)=(none:Option (Nat × Bool)) from hg) (by simp)
 ·obtain rfl:=so (show za[28]? =some kz from rfl) ho
  exact absurd (show some (25,true)=(none:Option (Nat × Bool)) from hg) (by simp)
 ·exact absurd (show false=true from hk) (by simp)
 ·exact absurd (show false=true from hk) (by simp)
 ·exact absurd (show false=true from hk) (by simp)
 ·exact absurd (show false=true from hk) (by simp)
 ·exact absurd (show false=true from hk) (by simp))
 ·(
 intro i w hk
 by_cases hi:i<34
 ·(
 have:i=0∨i=1∨i=2∨i=3∨i=4∨i=5∨i=6∨i=7∨i=8∨i=9∨i=10∨i=11∨i=12∨i=13∨i=14∨i=15∨i=16∨i=17∨i=18∨i=19∨i=20∨i=21∨i=22∨i=23∨i=24∨i=25∨i=26∨i=27∨i=28∨i=29∨i=30∨i=31∨i=32∨i=33:=by omega
 rcases this with rfl|rfl|rfl|rfl|rfl|rfl|rfl|rfl|rfl|rfl|rfl|rfl|rfl|rfl|rfl|rfl|rfl|rfl|rfl|rfl|rfl|rfl|rfl|rfl|rfl|rfl|rfl|rfl|rfl|rfl|rfl|rfl|rfl|rfl
 ·exact absurd (show false=true from hk) (by simp)
 ·exact absurd (show false=true from hk) (by simp)
 ·exact absurd (show false=true from hk) (by simp)
 ·exact absurd (show false=true from hk) (by simp)
 ·exact absurd (show false=true from hk) (by simp)
 ·exact absurd (show false=true from hk) (by simp)
 ·exact absurd (show false=true from hk) (by simp)
 ·exact absurd (show false=true from hk) (by simp)
 ·exact absurd (show false=true from hk) (by simp)
 ·exact absurd (show false=true from hk) (by simp)
 ·exact absurd (show false=true from hk) (by simp)
 ·exact absurd (show false=true from hk) (by simp)
 ·exact absurd (show false=true from hk) (by simp)
 ·exact absurd (show false=true from hk) (by simp)
 ·exact absurd (show false=true from hk) (by simp)
 ·exact absurd (show false=true from hk) (by simp)
 ·exact absurd (show false=true from hk) (by simp)
 ·exact absurd (show false=true from hk) (by simp)
 ·exact absurd (show false=true from hk) (by simp)
 ·exact absurd (show false=true from hk) (by simp)
 ·exact absurd (show false=true from hk) (by simp)
 ·exact absurd (show false=true from hk) (by simp)
 ·exact absurd (show false=true from hk) (by simp)
 ·exact absurd (show false=true from hk) (by simp)
 ·exact absurd (show false=true from hk) (by simp)
 ·exact absurd (show false=true from hk) (by simp)
 ·exact (show undef=undef from rfl)
 ·exact (show undef=undef from rfl)
 ·exact (show undef=undef from rfl)
 ·exact absurd (show false=true from hk) (by simp)
 ·exact absurd (show false=true from hk) (by simp)
 ·exact absurd (show false=true from hk) (by simp)
 ·exact absurd (show false=true from hk) (by simp)
 ·exact absurd (show false=true from hk) (by simp))
 ·(
 exfalso
 unfold qgy at hk
 split at hk
 ·omega
 ·omega
 ·omega
 ·simp at hk))
 ·(
 intro i o a w K hki ho hH he hdep hk
 have hi:i<34:=(Array.getElem?_eq_some_iff.1 ho).1
 have hD:=jq (ps:=[(1,0),(2,1),(3,2),(4,3),(5,3),(5,4),(6,3),(6,5),(7,3),(7,6),(8,3),(8,6),(8,7),(9,8),(10,8),(10,9),(11,8),(12,8),(12,10),(12,11),(13,8),(13,12),(14,3),(14,8),(14,13),(15,3),(15,14),(16,12),(16,15),(17,16),(18,16),(18,17),(19,16),(19,18),(20,16),(20,19),(21,20),(22,20),(22,21),(23,20),(23,22),(24,16),(24,20),(24,23),(25,16),(25,20),(25,24),(26,25),(27,25),(27,26),(28,25),(28,27),(29,16),(29,25),(29,28),(30,16),(30,29),(31,25),(31,30),(32,31),(33,31),(33,32)]) (by kernel_rfl) ho (fun j=>zuv g1 zb f sg li bd j w (a.eval (.tmp (zhq j)))) hdep
 have e1':=(he 1 (fun j hj e=>absurd e.symm (by revert j;decide))).trans e1
 have e6':=(he 6 (fun j hj e=>absurd e.symm (by revert j;decide))).trans e6
 have:i=0∨i=1∨i=2∨i=3∨i=4∨i=5∨i=6∨i=7∨i=8∨i=9∨i=10∨i=11∨i=12∨i=13∨i=14∨i=15∨i=16∨i=17∨i=18∨i=19∨i=20∨i=21∨i=22∨i=23∨i=24∨i=25∨i=26∨i=27∨i=28∨i=29∨i=30∨i=31∨i=32∨i=33:=by omega
 rcases this with rfl|rfl|rfl|rfl|rfl|rfl|rfl|rfl|rfl|rfl|rfl|rfl|rfl|rfl|rfl|rfl|rfl|rfl|rfl|rfl|rfl|rfl|rfl|rfl|rfl|rfl|rfl|rfl|rfl|rfl|rfl|rfl|rfl|rfl
 ·obtain rfl:=so (show za[0]? =some p8 from rfl) ho
  exact al (je a w _ _ _ _ _ _ g1 e1') (hk _ _ (But.refl _ _) rfl)
 ·obtain rfl:=so (show za[1]? =some pz from rfl) ho
  exact al (z8 a w _ _ _ _ _ _ g1 0 _ (hD 0 (by simp)) ((hdr hH).ag c0 (by simp))) (hk _ _ (But.refl _ _) rfl)
 ·obtain rfl:=so (show za[2]? =some pu from rfl) ho
  exact al (jf a w _ _ _ _ _ _ 1 1 true rfl (hD 1 (by simp))) (hk _ _ (But.refl _ _) rfl)
 ·obtain rfl:=so (show za[3]? =some pg from rfl) ho
  exact al (br a w _ _ _ _ _ _ _ (hD 2 (by simp))) (hk _ _ (But.refl _ _) rfl)
 ·obtain rfl:=so (show za[4]? =some o9 from rfl) ho
  exact al (zew a w _ _ _ _ _ _ g1 e1') (hk _ _ (But.refl _ _) rfl)
 ·obtain rfl:=so (show za[5]? =some o8 from rfl) ho
  exact al (zex a w _ _ _ _ _ _ g1 1 _ (hD 4 (by simp)) ((hdr hH).ag c1 (by simp))) (hk _ _ (But.refl _ _) rfl)
 ·obtain rfl:=so (show za[6]? =some o7 from rfl) ho
  exact aw (zns a w _ _ _ _ _ _ _ (hD 5 (by simp))) (R:=fun w' v=>But [] w w'∧v=_) ((SG w (hdr hH)).mono fun e w' ⟨he,hb⟩=>⟨_,he,hb,rfl⟩) (fun v w' hv=>hk v w' hv.1 hv.2)
 ·obtain rfl:=so (show za[7]? =some oz from rfl) ho
  exact al (zbt a w _ _ _ _ _ _ sg 0 false (decide_eq_false hsg).symm (hD 6 (by simp))) (hk _ _ (But.refl _ _) rfl)
 ·obtain rfl:=so (show za[8]? =some ow from rfl) ho
  exact al (br a w _ _ _ _ _ _ _ (hD 7 (by simp))) (hk _ _ (But.refl _ _) rfl)
 ·obtain rfl:=so (show za[9]? =some ou from rfl) ho
  exact al (zew a w _ _ _ _ _ _ g1 e1') (hk _ _ (But.refl _ _) rfl)
 ·obtain rfl:=so (show za[10]? =some wu from rfl) ho
  exact al (zex a w _ _ _ _ _ _ g1 1 _ (hD 9 (by simp)) ((hdr hH).ag c1 (by simp))) (hk _ _ (But.refl _ _) rfl)
 ·obtain rfl:=so (show za[11]? =some wh from rfl) ho
  exact aw (zmp a w _ _ _ _ _) (R:=fun w' v=>(∃ y,v=.pointer (some ⟨y,0,none⟩)∧zx w' y 1)∧But [] w w') (IN w (hdr hH)) (fun v w' hv=>hk v w' hv.2 hv.1)
 ·obtain rfl:=so (show za[12]? =some y9 from rfl) ho
  obtain⟨y,hy,hr⟩:=hD 11 (by simp)
  exact aw (zug a w _ _ _ _ _ _ _ _ _ (hD 10 (by simp)) hy) (R:=fun w' v=>(∃ c:Int,v=.int .i64 c∧(0<c↔1<f))∧But [] w w') (CM w y (hdr hH) hr) (fun v w' hv=>hk v w' hv.2 hv.1)
 ·obtain rfl:=so (show za[13]? =some y8 from rfl) ho
  obtain⟨c,hc,hcc⟩:=hD 12 (by simp)
  exact al (zuf a w _ _ _ _ _ _ c 0 false (decide_eq_false (fun h=>hgt (hcc.1 h))).symm hc) (hk _ _ (But.refl _ _) rfl)
 ·obtain rfl:=so (show za[14]? =some y7 from rfl) ho
  exact al (qi a w _ _ _ _ _ _ _ false (.bool false) _ rfl (hD 8 (by simp)) (hD 13 (by simp))) (hk _ _ (But.refl _ _) rfl)
 ·obtain rfl:=so (show za[15]? =some yx from rfl) ho
  exact al (jh a w _ _ _ _ _ _ _ true (.bool false) _ rfl (hD 3 (by simp)) (hD 14 (by simp))) (hk _ _ (But.refl _ _) rfl)
 ·obtain rfl:=so (show za[16]? =some yw from rfl) ho
  exact al (br a w _ _ _ _ _ _ _ (hD 15 (by simp))) (hk _ _ (But.refl _ _) rfl)
 ·obtain rfl:=so (show za[17]? =some yu from rfl) ho
  exact al (je a w _ _ _ _ _ _ g1 e1') (hk _ _ (But.refl _ _) rfl)
 ·obtain rfl:=so (show za[18]? =some yt from rfl) ho
  exact al (z8 a w _ _ _ _ _ _ g1 0 _ (hD 17 (by simp)) ((hdr hH).ag c0 (by simp))) (hk _ _ (But.refl _ _) rfl)
 ·obtain rfl:=so (show za[19]? =some yo from rfl) ho
  exact al (jf a w _ _ _ _ _ _ 1 2 false rfl (hD 18 (by simp))) (hk _ _ (But.refl _ _) rfl)
 ·obtain rfl:=so (show za[20]? =some yj from rfl) ho
  exact al (br a w _ _ _ _ _ _ _ (hD 19 (by simp))) (hk _ _ (But.refl _ _) rfl)
 ·obtain rfl:=so (show za[21]? =some yh from rfl) ho
  exact al (je a w _ _ _ _ _ _ g1 e1') (hk _ _ (But.refl _ _) rfl)
 ·obtain rfl:=so (show za[22]? =some yg from rfl) ho
  exact al (z8 a w _ _ _ _ _ _ g1 0 _ (hD 21 (by simp)) ((hdr hH).ag c0 (by simp))) (hk _ _ (But.refl _ _) rfl)
 ·obtain rfl:=so (show za[23]? =some yc from rfl) ho
  exact al (jf a w _ _ _ _ _ _ 1 3 false rfl (hD 22 (by simp))) (hk _ _ (But.refl _ _) rfl)
 ·obtain rfl:=so (show za[24]? =some vz from rfl) ho
  exact al (qi a w _ _ _ _ _ _ _ false (.bool false) _ rfl (hD 20 (by simp)) (hD 23 (by simp))) (hk _ _ (But.refl _ _) rfl)
 ·obtain rfl:=so (show za[25]? =some vw from rfl) ho
  exact al (br a w _ _ _ _ _ _ _ (hD 24 (by simp))) (hk _ _ (But.refl _ _) rfl)
 ·exact absurd (show true=false from hki) (by simp)
 ·exact absurd (show true=false from hki) (by simp)
 ·exact absurd (show true=false from hki) (by simp)
 ·obtain rfl:=so (show za[29]? =some ky from rfl) ho
  exact al (jh a w _ _ _ _ _ _ _ false (undef) _ rfl (hD 25 (by simp)) (hD 28 (by simp))) (hk _ _ (But.refl _ _) rfl)
 ·obtain rfl:=so (show za[30]? =some kw from rfl) ho
  exact al (qi a w _ _ _ _ _ _ _ false (.bool false) _ rfl (hD 16 (by simp)) (hD 29 (by simp))) (hk _ _ (But.refl _ _) rfl)
 ·obtain rfl:=so (show za[31]? =some kv from rfl) ho
  exact al (br a w _ _ _ _ _ _ _ (hD 30 (by simp))) (hk _ _ (But.refl _ _) rfl)
 ·obtain rfl:=so (show za[32]? =some ku from rfl) ho
  exact al (br a w _ _ _ _ _ _ _ e6') (hk _ _ (But.refl _ _) rfl)
 ·obtain rfl:=so (show za[33]? =some kr from rfl) ho
  exact al (qi a w _ _ _ _ _ _ _ false (.bool bd) _ rfl (hD 31 (by simp)) (hD 32 (by simp))) (hk _ _ (But.refl _ _) rfl))
 ·(
 intro a w h
 have ea:=h.puts hT (fun i=>match i with
  | 0=>.pointer (some ⟨g1,0,none⟩)
  | 1=>.int .i64 1
  | 2=>.bool true
  | 3=>.bool true
  | 4=>.pointer (some ⟨g1,1,none⟩)
  | 5=>.pointer (some ⟨zb,0,none⟩)
  | 6=>.int .i64 sg
  | 7=>.bool false
  | 8=>.bool false
  | 9=>.pointer (some ⟨g1,1,none⟩)
  | 10=>.pointer (some ⟨zb,0,none⟩)
  | 11=>a.eval (.tmp 111)
  | 12=>a.eval (.tmp 112)
  | 13=>.bool false
  | 14=>.bool false
  | 15=>.bool false
  | 16=>.bool false
  | 17=>.pointer (some ⟨g1,0,none⟩)
  | 18=>.int .i64 1
  | 19=>.bool false
  | 20=>.bool false
  | 21=>.pointer (some ⟨g1,0,none⟩)
  | 22=>.int .i64 1
  | 23=>.bool false
  | 24=>.bool false
  | 25=>.bool false
  | 26=>undef
  | 27=>undef
  | 28=>undef
  | 29=>.bool false
  | 30=>.bool false
  | 31=>.bool false
  | 32=>.bool bd
  | _=>.bool bd) (fun i hi=>by
  have hi':i<34:=hi
  have hc:=h.has i hi rfl
  have:i=0∨i=1∨i=2∨i=3∨i=4∨i=5∨i=6∨i=7∨i=8∨i=9∨i=10∨i=11∨i=12∨i=13∨i=14∨i=15∨i=16∨i=17∨i=18∨i=19∨i=20∨i=21∨i=22∨i=23∨i=24∨i=25∨i=26∨i=27∨i=28∨i=29∨i=30∨i=31∨i=32∨i=33:=by omega
  rcases this with rfl|rfl|rfl|rfl|rfl|rfl|rfl|rfl|rfl|rfl|rfl|rfl|rfl|rfl|rfl|rfl|rfl|rfl|rfl|rfl|rfl|rfl|rfl|rfl|rfl|rfl|rfl|rfl|rfl|rfl|rfl|rfl|rfl|rfl
  all_goals first | exact hc|rfl)
 rw[ea]
 exact hQ w (a.eval (.tmp 111)) (a.eval (.tmp 112)) (hdr h.but)))
def zhp (i:Nat):Nat:=match i with
 | 0=>100
 | 1=>101
 | 2=>102
 | 3=>103
 | 4=>104
 | 5=>105
 | 6=>106
 | 7=>107
 | 8=>108
 | 9=>109
 | 10=>110
 | 11=>111
 | 12=>112
 | 13=>113
 | 14=>114
 | 15=>115
 | 16=>116
 | 17=>117
 | 18=>118
 | 19=>119
 | 20=>120
 | 21=>121
 | 22=>122
 | 23=>123
 | 24=>124
 | 25=>125
 | 26=>126
 | 27=>127
 | 28=>128
 | 29=>129
 | 30=>130
 | 31=>131
 | 32=>132
 | _=>133
def zuu (g1:Nat) (zb:Nat) (f:Rat) (sg:Int) (li:Int) (bd:Bool) (i:Nat) (_w:World) (v:Value):Prop:=match i with
 | 0=>v=.pointer (some ⟨g1,0,none⟩)
 | 1=>v=.int .i64 2
 | 2=>v=.bool false
 | 3=>v=.bool false
 | 4=>v=undef
 | 5=>v=undef
 | 6=>v=undef
 | 7=>v=undef
 | 8=>v=undef
 | 9=>v=undef
 | 10=>v=undef
 | 11=>v=undef
 | 12=>v=undef
 | 13=>v=undef
 | 14=>v=undef
 | 15=>v=.bool false
 | 16=>v=.bool false
 | 17=>v=.pointer (some ⟨g1,0,none⟩)
 | 18=>v=.int .i64 2
 | 19=>v=.bool true
 | 20=>v=.bool true
 | 21=>v=undef
 | 22=>v=undef
 | 23=>v=undef
 | 24=>v=.bool true
 | 25=>v=.bool true
 | 26=>v=.pointer (some ⟨g1,3,none⟩)
 | 27=>v=.int .i64 li
 | 28=>v=.bool true
 | 29=>v=.bool true
 | 30=>v=.bool true
 | 31=>v=.bool true
 | 32=>v=undef
 | _=>v=.bool true
def qgx (i:Nat):Bool:=match i with
 | 4=>true
 | 5=>true
 | 6=>true
 | 7=>true
 | 8=>true
 | 9=>true
 | 10=>true
 | 11=>true
 | 12=>true
 | 13=>true
 | 14=>true
 | 21=>true
 | 22=>true
 | 23=>true
 | 32=>true
 | _=>false
theorem zwu:∀ i j,i<34→j<34→zhp i=zhp j→i=j:=fun i j hi hj=>(by decide:∀ i,i<34→∀ j,j<34→zhp i=zhp j→i=j) i hi j hj
theorem zdl (id:Nat) (Q:Exit→Act→World→Prop) (base:Act) (W0:World) (g1:Nat) (zb:Nat) (f:Rat) (sg:Int) (li:Int) (bd:Bool) (hs:133<base.tmps.size) (e1:base.eval (.tmp 1)=.pointer (some ⟨g1,0,none⟩)) (e6:base.eval (.tmp 6)=.bool bd)
   (c0:W0.cell? ⟨g1,0,none⟩=some (.int .i64 2)) (c3:W0.cell? ⟨g1,3,none⟩=some (.int .i64 li)) (hli:li<1)
   (hQ:∀ w,But [] W0 w→Q .normal (bi base [(100,.pointer (some ⟨g1,0,none⟩)),(101,.int .i64 2),(102,.bool false),(103,.bool false),(104,undef),(105,undef),(106,undef),(107,undef),(108,undef),(109,undef),(110,undef),(111,undef),(112,undef),(113,undef),(114,undef),(115,.bool false),(116,.bool false),(117,.pointer (some ⟨g1,0,none⟩)),(118,.int .i64 2),(119,.bool true),(120,.bool true),(121,undef),(122,undef),(123,undef),(124,.bool true),(125,.bool true),(126,.pointer (some ⟨g1,3,none⟩)),(127,.int .i64 li),(128,.bool true),(129,.bool true),(130,.bool true),(131,.bool true),(132,undef),(133,.bool true)]) w) :
   (Code.region id za true).wp prog Q base W0:=by(
 have hdr:∀ {w},But [] W0.drew w→But [] W0 w:=fun h=>(But.refl _ _).drew.trans' h
 have hT:∀ i,i<34→zhp i<base.tmps.size:=fun i hi=>by
  have h:zhp i≤133:=by revert i;decide
  omega
 have hCb:∀ i w w' v,i<34→zuu g1 zb f sg li bd i w v→zuu g1 zb f sg li bd i w' v:=fun i w w' v hi h=>by
  have:i=0∨i=1∨i=2∨i=3∨i=4∨i=5∨i=6∨i=7∨i=8∨i=9∨i=10∨i=11∨i=12∨i=13∨i=14∨i=15∨i=16∨i=17∨i=18∨i=19∨i=20∨i=21∨i=22∨i=23∨i=24∨i=25∨i=26∨i=27∨i=28∨i=29∨i=30∨i=31∨i=32∨i=33:=by omega
  rcases this with rfl|rfl|rfl|rfl|rfl|rfl|rfl|rfl|rfl|rfl|rfl|rfl|rfl|rfl|rfl|rfl|rfl|rfl|rfl|rfl|rfl|rfl|rfl|rfl|rfl|rfl|rfl|rfl|rfl|rfl|rfl|rfl|rfl|rfl
  ·exact (show v=.pointer (some ⟨g1,0,none⟩) from h)
  ·exact (show v=.int .i64 2 from h)
  ·exact (show v=.bool false from h)
  ·exact (show v=.bool false from h)
  ·exact (show v=undef from h)
  ·exact (show v=undef from h)
  ·exact (show v=undef from h)
  ·exact (show v=undef from h)
  ·exact (show v=undef from h)
  ·exact (show v=undef from h)
  ·exact (show v=undef from h)
  ·exact (show v=undef from h)
  ·exact (show v=undef from h)
  ·exact (show v=undef from h)
  ·exact (show v=undef from h)
  ·exact (show v=.bool false from h)
  ·exact (show v=.bool false from h)
  ·exact (show v=.pointer (some ⟨g1,0,none⟩) from h)
  ·exact (show v=.int .i64 2 from h)
  ·exact (show v=.bool true from h)
  ·exact (show v=.bool true from h)
  ·exact (show v=undef from h)
  ·exact (show v=undef from h)
  ·exact (show v=undef from h)
  ·exact (show v=.bool true from h)
  ·exact (show v=.bool true from h)
  ·exact (show v=.pointer (some ⟨g1,3,none⟩) from h)
  ·exact (show v=.int .i64 li from h)
  ·exact (show v=.bool true from h)
  ·exact (show v=.bool true from h)
  ·exact (show v=.bool true from h)
  ·exact (show v=.bool true from h)
  ·exact (show v=undef from h)
  ·exact (show v=.bool true from h)
 refine ji (by kernel_rfl) (di (by kernel_rfl)) (zuu g1 zb f sg li bd) zhp (by kernel_rfl) qgx ?_ ?_ ?_ zwu hT (fun i w w' v hi h _=>hCb i w w' v hi h) ?_ ?_
 ·(
 intro i o j want ho hg w v hv
 have hi:i<34:=(Array.getElem?_eq_some_iff.1 ho).1
 have:i=0∨i=1∨i=2∨i=3∨i=4∨i=5∨i=6∨i=7∨i=8∨i=9∨i=10∨i=11∨i=12∨i=13∨i=14∨i=15∨i=16∨i=17∨i=18∨i=19∨i=20∨i=21∨i=22∨i=23∨i=24∨i=25∨i=26∨i=27∨i=28∨i=29∨i=30∨i=31∨i=32∨i=33:=by omega
 rcases this with rfl|rfl|rfl|rfl|rfl|rfl|rfl|rfl|rfl|rfl|rfl|rfl|rfl|rfl|rfl|rfl|rfl|rfl|rfl|rfl|rfl|rfl|rfl|rfl|rfl|rfl|rfl|rfl|rfl|rfl|rfl|rfl|rfl|rfl
 ·obtain rfl:=so (show za[0]? =some p8 from rfl) ho
  exact absurd (show (none:Option (Nat × Bool))=some (j,want) from hg) (by simp)
 ·obtain rfl:=so (show za[1]? =some pz from rfl) ho
  exact absurd (show (none:Option (Nat × Bool))=some (j,want) from hg) (by simp)
 ·obtain rfl:=so (show za[2]? =some pu from rfl) ho
  exact absurd (show (none:Option (Nat × Bool))=some (j,want) from hg) (by simp)
 ·obtain rfl:=so (show za[3]? =some pg from rfl) ho
  exact absurd (show (none:Option (Nat × Bool))=some (j,want) from hg) (by simp)
 ·obtain rfl:=so (show za[4]? =some o9 from rfl) ho
  obtain⟨rfl,rfl⟩:=Prod.mk.inj (Option.some.inj (show some (3,true)=some (j,want) from hg))
  exact⟨fun _=>.inr hv,fun h=>absurd (show true=false from h) (by simp)⟩
 ·obtain rfl:=so (show za[5]? =some o8 from rfl) ho
  obtain⟨rfl,rfl⟩:=Prod.mk.inj (Option.some.inj (show some (3,true)=some (j,want) from hg))
  exact⟨fun _=>.inr hv,fun h=>absurd (show true=false from h) (by simp)⟩
 ·obtain rfl:=so (show za[6]? =some o7 from rfl) ho
  obtain⟨rfl,rfl⟩:=Prod.mk.inj (Option.some.inj (show some (3,true)=some (j,want) from hg))
  exact⟨fun _=>.inr hv,fun h=>absurd (show true=false from h) (by simp)⟩
 ·obtain rfl:=so (show za[7]? =some oz from rfl) ho
  obtain⟨rfl,rfl⟩:=Prod.mk.inj (Option.some.inj (show some (3,true)=some (j,want) from hg))
  exact⟨fun _=>.inr hv,fun h=>absurd (show true=false from h) (by simp)⟩
 ·obtain rfl:=so (show za[8]? =some ow from rfl) ho
  obtain⟨rfl,rfl⟩:=Prod.mk.inj (Option.some.inj (show some (3,true)=some (j,want) from hg))
  exact⟨fun _=>.inr hv,fun h=>absurd (show true=false from h) (by simp)⟩
 ·obtain rfl:=so (show za[9]? =some ou from rfl) ho
  obtain⟨rfl,rfl⟩:=Prod.mk.inj (Option.some.inj (show some (8,false)=some (j,want) from hg))
  exact⟨fun _=>.inl hv,fun h=>absurd (show true=false from h) (by simp)⟩
 ·obtain rfl:=so (show za[10]? =some wu from rfl) ho
  obtain⟨rfl,rfl⟩:=Prod.mk.inj (Option.some.inj (show some (8,false)=some (j,want) from hg))
  exact⟨fun _=>.inl hv,fun h=>absurd (show true=false from h) (by simp)⟩
 ·obtain rfl:=so (show za[11]? =some wh from rfl) ho
  obtain⟨rfl,rfl⟩:=Prod.mk.inj (Option.some.inj (show some (8,false)=some (j,want) from hg))
  exact⟨fun _=>.inl hv,fun h=>absurd (show true=false from h) (by simp)⟩
 ·obtain rfl:=so (show za[12]? =some y9 from rfl) ho
  obtain⟨rfl,rfl⟩:=Prod.mk.inj (Option.some.inj (show some (8,false)=some (j,want) from hg))
  exact⟨fun _=>.inl hv,fun h=>absurd (show true=false from h) (by simp)⟩
 ·obtain rfl:=so (show za[13]? =some y8 from rfl) ho
  obtain⟨rfl,rfl⟩:=Prod.mk.inj (Option.some.inj (show some (8,false)=some (j,want) from hg))
  exact⟨fun _=>.inl hv,fun h=>absurd (show true=false from h) (by simp)⟩
 ·obtain rfl:=so (show za[14]? =some y7 from rfl) ho
  obtain⟨rfl,rfl⟩:=Prod.mk.inj (Option.some.inj (show some (3,true)=some (j,want) from hg))
  exact⟨fun _=>.inr hv,fun h=>absurd (show true=false from h) (by simp)⟩
 ·obtain rfl:=so (show za[15]? =some yx from rfl) ho
  exact absurd (show (none:Option (Nat × Bool))=some (j,want) from hg) (by simp)
 ·obtain rfl:=so (show za[16]? =some yw from rfl) ho
  exact absurd (show (none:Option (Nat × Bool))=some (j,want) from hg) (by simp)
 ·obtain rfl:=so (show za[17]? =some yu from rfl) ho
  obtain⟨rfl,rfl⟩:=Prod.mk.inj (Option.some.inj (show some (16,false)=some (j,want) from hg))
  exact⟨fun h=>absurd (show false=true from h) (by simp),fun _=>hv⟩
 ·obtain rfl:=so (show za[18]? =some yt from rfl) ho
  obtain⟨rfl,rfl⟩:=Prod.mk.inj (Option.some.inj (show some (16,false)=some (j,want) from hg))
  exact⟨fun h=>absurd (show false=true from h) (by simp),fun _=>hv⟩
 ·obtain rfl:=so (show za[19]? =some yo from rfl) ho
  obtain⟨rfl,rfl⟩:=Prod.mk.inj (Option.some.inj (show some (16,false)=some (j,want) from hg))
  exact⟨fun h=>absurd (show false=true from h) (by simp),fun _=>hv⟩
 ·obtain rfl:=so (show za[20]? =some yj from rfl) ho
  obtain⟨rfl,rfl⟩:=Prod.mk.inj (Option.some.inj (show some (16,false)=some (j,want) from hg))
  exact⟨fun h=>absurd (show false=true from h) (by simp),fun _=>hv⟩
 ·obtain rfl:=so (show za[21]? =some yh from rfl) ho
  obtain⟨rfl,rfl⟩:=Prod.mk.inj (Option.some.inj (show some (20,false)=some (j,want) from hg))
  exact⟨fun _=>.inr hv,fun h=>absurd (show true=false from h) (by simp)⟩
 ·obtain rfl:=so (show za[22]? =some yg from rfl) ho
  obtain⟨rfl,rfl⟩:=Prod.mk.inj (Option.some.inj (show some (20,false)=some (j,want) from hg))
  exact⟨fun _=>.inr hv,fun h=>absurd (show true=false from h) (by simp)⟩
 ·obtain rfl:=so (show za[23]? =some yc from rfl) ho
  obtain⟨rfl,rfl⟩:=Prod.mk.inj (Option.some.inj (show some (20,false)=some (j,want) from hg))
  exact⟨fun _=>.inr hv,fun h=>absurd (show true=false from h) (by simp)⟩
 ·obtain rfl:=so (show za[24]? =some vz from rfl) ho
  obtain⟨rfl,rfl⟩:=Prod.mk.inj (Option.some.inj (show some (16,false)=some (j,want) from hg))
  exact⟨fun h=>absurd (show false=true from h) (by simp),fun _=>hv⟩
 ·obtain rfl:=so (show za[25]? =some vw from rfl) ho
  obtain⟨rfl,rfl⟩:=Prod.mk.inj (Option.some.inj (show some (16,false)=some (j,want) from hg))
  exact⟨fun h=>absurd (show false=true from h) (by simp),fun _=>hv⟩
 ·obtain rfl:=so (show za[26]? =some vv from rfl) ho
  obtain⟨rfl,rfl⟩:=Prod.mk.inj (Option.some.inj (show some (25,true)=some (j,want) from hg))
  exact⟨fun h=>absurd (show false=true from h) (by simp),fun _=>hv⟩
 ·obtain rfl:=so (show za[27]? =some ve from rfl) ho
  obtain⟨rfl,rfl⟩:=Prod.mk.inj (Option.some.inj (show some (25,true)=some (j,want) from hg))
  exact⟨fun h=>absurd (show false=true from h) (by simp),fun _=>hv⟩
 ·obtain rfl:=so (show za[28]? =some kz from rfl) ho
  obtain⟨rfl,rfl⟩:=Prod.mk.inj (Option.some.inj (show some (25,true)=some (j,want) from hg))
  exact⟨fun h=>absurd (show false=true from h) (by simp),fun _=>hv⟩
 ·obtain rfl:=so (show za[29]? =some ky from rfl) ho
  obtain⟨rfl,rfl⟩:=Prod.mk.inj (Option.some.inj (show some (16,false)=some (j,want) from hg))
  exact⟨fun h=>absurd (show false=true from h) (by simp),fun _=>hv⟩
 ·obtain rfl:=so (show za[30]? =some kw from rfl) ho
  exact absurd (show (none:Option (Nat × Bool))=some (j,want) from hg) (by simp)
 ·obtain rfl:=so (show za[31]? =some kv from rfl) ho
  exact absurd (show (none:Option (Nat × Bool))=some (j,want) from hg) (by simp)
 ·obtain rfl:=so (show za[32]? =some ku from rfl) ho
  obtain⟨rfl,rfl⟩:=Prod.mk.inj (Option.some.inj (show some (31,false)=some (j,want) from hg))
  exact⟨fun _=>.inr hv,fun h=>absurd (show true=false from h) (by simp)⟩
 ·obtain rfl:=so (show za[33]? =some kr from rfl) ho
  exact absurd (show (none:Option (Nat × Bool))=some (j,want) from hg) (by simp))
 ·(
 intro i o ho hk hg
 have hi:i<34:=(Array.getElem?_eq_some_iff.1 ho).1
 have:i=0∨i=1∨i=2∨i=3∨i=4∨i=5∨i=6∨i=7∨i=8∨i=9∨i=10∨i=11∨i=12∨i=13∨i=14∨i=15∨i=16∨i=17∨i=18∨i=19∨i=20∨i=21∨i=22∨i=23∨i=24∨i=25∨i=26∨i=27∨i=28∨i=29∨i=30∨i=31∨i=32∨i=33:=by omega
 rcases this with rfl|rfl|rfl|rfl|rfl|rfl|rfl|rfl|rfl|rfl|rfl|rfl|rfl|rfl|rfl|rfl|rfl|rfl|rfl|rfl|rfl|rfl|rfl|rfl|rfl|rfl|rfl|rfl|rfl|rfl|rfl|rfl|rfl|rfl
 ·exact absurd (show false=true from hk) (by simp)
 ·exact absurd (show false=true from hk) (by simp)
 ·exact absurd (show false=true from hk) (by simp)
 ·exact absurd (show false=true from hk) (by simp)
 ·obtain rfl:=so (show za[4]? =some o9 from rfl) ho
  exact absurd (show some (3,true)=(none:Option (Nat × Bool)) from hg) (by simp)
 ·obtain rfl:=so (show za[5]? =some o8 from rfl) ho
  exact absurd (show some (3,true)=(none:Option (Nat × Bool)) from hg) (by simp)
 ·obtain rfl:=so (show za[6]? =some o7 from rfl) ho
  exact absurd (show some (3,true)=(none:Option (Nat × Bool)) from hg) (by simp)
 ·obtain rfl:=so (show za[7]? =some oz from rfl) ho
  exact absurd (show some (3,true)=(none:Option (Nat × Bool)) from hg) (by simp)
 ·obtain rfl:=so (show za[8]? =some ow from rfl) ho
  exact absurd (show some (3,true)=(none:Option (Nat × Bool)) from hg) (by simp)
 ·obtain rfl:=so (show za[9]? =some ou from rfl) ho
  exact absurd (show some (8,false)=(none:Option (Nat × Bool)) from hg) (by simp)
 ·obtain rfl:=so (show za[10]? =some wu from rfl) ho
  exact absurd (show some (8,false)=(none:Option (Nat × Bool)) from hg) (by simp)
 ·obtain rfl:=so (show za[11]? =some wh from rfl) ho
  exact absurd (show some (8,false)=(none:Option (Nat × Bool)) from hg) (by simp)
 ·obtain rfl:=so (show za[12]? =some y9 from rfl) ho
  exact absurd (show some (8,false)=(none:Option (Nat × Bool)) from hg) (by simp)
 ·obtain rfl:=so (show za[13]? =some y8 from rfl) ho
  exact absurd (show some (8,false)=(none:Option (Nat × Bool)) from hg) (by simp)
 ·obtain rfl:=so (show za[14]? =some y7 from rfl) ho
  exact absurd (show some (3,true)=(none:Option (Nat × Bool)) from hg) (by simp)
 ·exact absurd (show false=true from hk) (by simp)
 ·exact absurd (show false=true from hk) (by simp)
 ·exact absurd (show false=true from hk) (by simp)
 ·exact absurd (show false=true from hk) (by simp)
 ·exact absurd (show false=true from hk) (by simp)
 ·exact absurd (show false=true from hk) (by simp)
 ·obtain rfl:=so (show za[21]? =some yh from rfl) ho
  exact absurd (show some (20,false)=(none:Option (Nat × Bool)) from hg) (by simp)
 ·obtain rfl:=so (show za[22]? =some yg from rfl) ho
  exact absurd (show some (20,false)=(none:Option (Nat × Bool)) from hg) (by simp)
 ·obtain rfl:=so (show za[23]? =some yc from rfl) ho
  exact absurd (show some (20,false)=(none:Option (Nat × Bool)) from hg) (by simp)
 ·exact absurd (show false=true from hk) (by simp)
 ·exact absurd (show false=true from hk) (by simp)
 ·exact absurd (show false=true from hk) (by simp)
 ·exact absurd (show false=true from hk) (by simp)
 ·exact absurd (show false=true from hk) (by simp)
 ·exact absurd (show false=true from hk) (by simp)
 ·exact absurd (show false=true from hk) (by simp)
 ·exact absurd (show false=true from hk) (by simp)
 ·obtain rfl:=so (show za[32]? =some ku from rfl) ho
  exact absurd (show some (31,false)=(none:Option (Nat × Bool)) from hg) (by simp)
 ·exact absurd (show false=true from hk) (by simp))
 ·(
 intro i w hk
 by_cases hi:i<34
 ·(
 have:i=0∨i=1∨i=2∨i=3∨i=4∨i=5∨i=6∨i=7∨i=8∨i=9∨i=10∨i=11∨i=12∨i=13∨i=14∨i=15∨i=16∨i=17∨i=18∨i=19∨i=20∨i=21∨i=22∨i=23∨i=24∨i=25∨i=26∨i=27∨i=28∨i=29∨i=30∨i=31∨i=32∨i=33:=by omega
 rcases this with rfl|rfl|rfl|rfl|rfl|rfl|rfl|rfl|rfl|rfl|rfl|rfl|rfl|rfl|rfl|rfl|rfl|rfl|rfl|rfl|rfl|rfl|rfl|rfl|rfl|rfl|rfl|rfl|rfl|rfl|rfl|rfl|rfl|rfl
 ·exact absurd (show false=true from hk) (by simp)
 ·exact absurd (show false=true from hk) (by simp)
 ·exact absurd (show false=true from hk) (by simp)
 ·exact absurd (show false=true from hk) (by simp)
 ·exact (show undef=undef from rfl)
 ·exact (show undef=undef from rfl)
 ·exact (show undef=undef from rfl)
 ·exact (show undef=undef from rfl)
 ·exact (show undef=undef from rfl)
 ·exact (show undef=undef from rfl)
 ·exact (show undef=undef from rfl)
 ·exact (show undef=undef from rfl)
 ·exact (show undef=undef from rfl)
 ·exact (show undef=undef from rfl)
 ·exact (show undef=undef from rfl)
 ·exact absurd (show false=true from hk) (by simp)
 ·exact absurd (show false=true from hk) (by simp)
 ·exact absurd (show false=true from hk) (by simp)
 ·exact absurd (show false=true from hk) (by simp)
 ·exact absurd (show false=true from hk) (by simp)
 ·exact absurd (show false=true from hk) (by simp)
 ·exact (show undef=undef from rfl)
 ·exact (show undef=undef from rfl)
 ·exact (show undef=undef from rfl)
 ·exact absurd (show false=true from hk) (by simp)
 ·exact absurd (show false=true from hk) (by simp)
 ·exact absurd (show false=true from hk) (by simp)
 ·exact absurd (show false=true from hk) (by simp)
 ·exact absurd (show false=true from hk) (by simp)
 ·exact absurd (show false=true from hk) (by simp)
 ·exact absurd (show false=true from hk) (by simp)
 ·exact absurd (show false=true from hk) (by simp)
 ·exact (show undef=undef from rfl)
 ·exact absurd (show false=true from hk) (by simp))
 ·(
 exfalso
 unfold qgx at hk
 split at hk
 ·omega
 ·omega
 ·omega
 ·omega
 ·omega
 ·omega
 ·omega
 ·omega
 ·omega
 ·omega
 ·omega
 ·omega
 ·omega
 ·omega
 ·omega
 ·simp at hk))
 ·(
 intro i o a w K hki ho hH he hdep hk
 have hi:i<34:=(Array.getElem?_eq_some_iff.1 ho).1
 have hD:=jq (ps:=[(1,0),(2,1),(3,2),(4,3),(5,3),(5,4),(6,3),(6,5),(7,3),(7,6),(8,3),(8,6),(8,7),(9,8),(10,8),(10,9),(11,8),(12,8),(12,10),(12,11),(13,8),(13,12),(14,3),(14,8),(14,13),(15,3),(15,14),(16,12),(16,15),(17,16),(18,16),(18,17),(19,16),(19,18),(20,16),(20,19),(21,20),(22,20),(22,21),(23,20),(23,22),(24,16),(24,20),(24,23),(25,16),(25,20),(25,24),(26,25),(27,25),(27,26),(28,25),(28,27),(29,16),(29,25),(29,28),(30,16),(30,29),(31,25),(31,30),(32,31),(33,31),(33,32)]) (by kernel_rfl) ho (fun j=>zuu g1 zb f sg li bd j w (a.eval (.tmp (zhp j)))) hdep
 have e1':=(he 1 (fun j hj e=>absurd e.symm (by revert j;decide))).trans e1
 have e6':=(he 6 (fun j hj e=>absurd e.symm (by revert j;decide))).trans e6
 have:i=0∨i=1∨i=2∨i=3∨i=4∨i=5∨i=6∨i=7∨i=8∨i=9∨i=10∨i=11∨i=12∨i=13∨i=14∨i=15∨i=16∨i=17∨i=18∨i=19∨i=20∨i=21∨i=22∨i=23∨i=24∨i=25∨i=26∨i=27∨i=28∨i=29∨i=30∨i=31∨i=32∨i=33:=by omega
 rcases this with rfl|rfl|rfl|rfl|rfl|rfl|rfl|rfl|rfl|rfl|rfl|rfl|rfl|rfl|rfl|rfl|rfl|rfl|rfl|rfl|rfl|rfl|rfl|rfl|rfl|rfl|rfl|rfl|rfl|rfl|rfl|rfl|rfl|rfl
 ·obtain rfl:=so (show za[0]? =some p8 from rfl) ho
  exact al (je a w _ _ _ _ _ _ g1 e1') (hk _ _ (But.refl _ _) rfl)
 ·obtain rfl:=so (show za[1]? =some pz from rfl) ho
  exact al (z8 a w _ _ _ _ _ _ g1 0 _ (hD 0 (by simp)) ((hdr hH).ag c0 (by simp))) (hk _ _ (But.refl _ _) rfl)
 ·obtain rfl:=so (show za[2]? =some pu from rfl) ho
  exact al (jf a w _ _ _ _ _ _ 2 1 false rfl (hD 1 (by simp))) (hk _ _ (But.refl _ _) rfl)
 ·obtain rfl:=so (show za[3]? =some pg from rfl) ho
  exact al (br a w _ _ _ _ _ _ _ (hD 2 (by simp))) (hk _ _ (But.refl _ _) rfl)
 ·exact absurd (show true=false from hki) (by simp)
 ·exact absurd (show true=false from hki) (by simp)
 ·exact absurd (show true=false from hki) (by simp)
 ·exact absurd (show true=false from hki) (by simp)
 ·exact absurd (show true=false from hki) (by simp)
 ·exact absurd (show true=false from hki) (by simp)
 ·exact absurd (show true=false from hki) (by simp)
 ·exact absurd (show true=false from hki) (by simp)
 ·exact absurd (show true=false from hki) (by simp)
 ·exact absurd (show true=false from hki) (by simp)
 ·exact absurd (show true=false from hki) (by simp)
 ·obtain rfl:=so (show za[15]? =some yx from rfl) ho
  exact al (jh a w _ _ _ _ _ _ _ false (undef) _ rfl (hD 3 (by simp)) (hD 14 (by simp))) (hk _ _ (But.refl _ _) rfl)
 ·obtain rfl:=so (show za[16]? =some yw from rfl) ho
  exact al (br a w _ _ _ _ _ _ _ (hD 15 (by simp))) (hk _ _ (But.refl _ _) rfl)
 ·obtain rfl:=so (show za[17]? =some yu from rfl) ho
  exact al (je a w _ _ _ _ _ _ g1 e1') (hk _ _ (But.refl _ _) rfl)
 ·obtain rfl:=so (show za[18]? =some yt from rfl) ho
  exact al (z8 a w _ _ _ _ _ _ g1 0 _ (hD 17 (by simp)) ((hdr hH).ag c0 (by simp))) (hk _ _ (But.refl _ _) rfl)
 ·obtain rfl:=so (show za[19]? =some yo from rfl) ho
  exact al (jf a w _ _ _ _ _ _ 2 2 true rfl (hD 18 (by simp))) (hk _ _ (But.refl _ _) rfl)
 ·obtain rfl:=so (show za[20]? =some yj from rfl) ho
  exact al (br a w _ _ _ _ _ _ _ (hD 19 (by simp))) (hk _ _ (But.refl _ _) rfl)
 ·exact absurd (show true=false from hki) (by simp)
 ·exact absurd (show true=false from hki) (by simp)
 ·exact absurd (show true=false from hki) (by simp)
 ·obtain rfl:=so (show za[24]? =some vz from rfl) ho
  exact al (qi a w _ _ _ _ _ _ _ true (undef) _ rfl (hD 20 (by simp)) (hD 23 (by simp))) (hk _ _ (But.refl _ _) rfl)
 ·obtain rfl:=so (show za[25]? =some vw from rfl) ho
  exact al (br a w _ _ _ _ _ _ _ (hD 24 (by simp))) (hk _ _ (But.refl _ _) rfl)
 ·obtain rfl:=so (show za[26]? =some vv from rfl) ho
  exact al (zbs a w _ _ _ _ _ _ g1 e1') (hk _ _ (But.refl _ _) rfl)
 ·obtain rfl:=so (show za[27]? =some ve from rfl) ho
  exact al (z8 a w _ _ _ _ _ _ g1 3 _ (hD 26 (by simp)) ((hdr hH).ag c3 (by simp))) (hk _ _ (But.refl _ _) rfl)
 ·obtain rfl:=so (show za[28]? =some kz from rfl) ho
  exact al (zbt a w _ _ _ _ _ _ li 1 true (decide_eq_true hli).symm (hD 27 (by simp))) (hk _ _ (But.refl _ _) rfl)
 ·obtain rfl:=so (show za[29]? =some ky from rfl) ho
  exact al (jh a w _ _ _ _ _ _ _ true (.bool true) _ rfl (hD 25 (by simp)) (hD 28 (by simp))) (hk _ _ (But.refl _ _) rfl)
 ·obtain rfl:=so (show za[30]? =some kw from rfl) ho
  exact al (qi a w _ _ _ _ _ _ _ false (.bool true) _ rfl (hD 16 (by simp)) (hD 29 (by simp))) (hk _ _ (But.refl _ _) rfl)
 ·obtain rfl:=so (show za[31]? =some kv from rfl) ho
  exact al (br a w _ _ _ _ _ _ _ (hD 30 (by simp))) (hk _ _ (But.refl _ _) rfl)
 ·exact absurd (show true=false from hki) (by simp)
 ·obtain rfl:=so (show za[33]? =some kr from rfl) ho
  exact al (qi a w _ _ _ _ _ _ _ true (undef) _ rfl (hD 31 (by simp)) (hD 32 (by simp))) (hk _ _ (But.refl _ _) rfl))
 ·(
 intro a w h
 have ea:=h.puts hT (fun i=>match i with
  | 0=>.pointer (some ⟨g1,0,none⟩)
  | 1=>.int .i64 2
  | 2=>.bool false
  | 3=>.bool false
  | 4=>undef
  | 5=>undef
  | 6=>undef
  | 7=>undef
  | 8=>undef
  | 9=>undef
  | 10=>undef
  | 11=>undef
  | 12=>undef
  | 13=>undef
  | 14=>undef
  | 15=>.bool false
  | 16=>.bool false
  | 17=>.pointer (some ⟨g1,0,none⟩)
  | 18=>.int .i64 2
  | 19=>.bool true
  | 20=>.bool true
  | 21=>undef
  | 22=>undef
  | 23=>undef
  | 24=>.bool true
  | 25=>.bool true
  | 26=>.pointer (some ⟨g1,3,none⟩)
  | 27=>.int .i64 li
  | 28=>.bool true
  | 29=>.bool true
  | 30=>.bool true
  | 31=>.bool true
  | 32=>undef
  | _=>.bool true) (fun i hi=>by
  have hi':i<34:=hi
  have hc:=h.has i hi rfl
  have:i=0∨i=1∨i=2∨i=3∨i=4∨i=5∨i=6∨i=7∨i=8∨i=9∨i=10∨i=11∨i=12∨i=13∨i=14∨i=15∨i=16∨i=17∨i=18∨i=19∨i=20∨i=21∨i=22∨i=23∨i=24∨i=25∨i=26∨i=27∨i=28∨i=29∨i=30∨i=31∨i=32∨i=33:=by omega
  rcases this with rfl|rfl|rfl|rfl|rfl|rfl|rfl|rfl|rfl|rfl|rfl|rfl|rfl|rfl|rfl|rfl|rfl|rfl|rfl|rfl|rfl|rfl|rfl|rfl|rfl|rfl|rfl|rfl|rfl|rfl|rfl|rfl|rfl|rfl
  all_goals first | exact hc|rfl)
 rw[ea]
 exact hQ w (hdr h.but)))
def zho (i:Nat):Nat:=match i with
 | 0=>100
 | 1=>101
 | 2=>102
 | 3=>103
 | 4=>104
 | 5=>105
 | 6=>106
 | 7=>107
 | 8=>108
 | 9=>109
 | 10=>110
 | 11=>111
 | 12=>112
 | 13=>113
 | 14=>114
 | 15=>115
 | 16=>116
 | 17=>117
 | 18=>118
 | 19=>119
 | 20=>120
 | 21=>121
 | 22=>122
 | 23=>123
 | 24=>124
 | 25=>125
 | 26=>126
 | 27=>127
 | 28=>128
 | 29=>129
 | 30=>130
 | 31=>131
 | 32=>132
 | _=>133
def zut (g1:Nat) (zb:Nat) (f:Rat) (sg:Int) (li:Int) (bd:Bool) (i:Nat) (_w:World) (v:Value):Prop:=match i with
 | 0=>v=.pointer (some ⟨g1,0,none⟩)
 | 1=>v=.int .i64 2
 | 2=>v=.bool false
 | 3=>v=.bool false
 | 4=>v=undef
 | 5=>v=undef
 | 6=>v=undef
 | 7=>v=undef
 | 8=>v=undef
 | 9=>v=undef
 | 10=>v=undef
 | 11=>v=undef
 | 12=>v=undef
 | 13=>v=undef
 | 14=>v=undef
 | 15=>v=.bool false
 | 16=>v=.bool false
 | 17=>v=.pointer (some ⟨g1,0,none⟩)
 | 18=>v=.int .i64 2
 | 19=>v=.bool true
 | 20=>v=.bool true
 | 21=>v=undef
 | 22=>v=undef
 | 23=>v=undef
 | 24=>v=.bool true
 | 25=>v=.bool true
 | 26=>v=.pointer (some ⟨g1,3,none⟩)
 | 27=>v=.int .i64 li
 | 28=>v=.bool false
 | 29=>v=.bool false
 | 30=>v=.bool false
 | 31=>v=.bool false
 | 32=>v=.bool bd
 | _=>v=.bool bd
def qgw (i:Nat):Bool:=match i with
 | 4=>true
 | 5=>true
 | 6=>true
 | 7=>true
 | 8=>true
 | 9=>true
 | 10=>true
 | 11=>true
 | 12=>true
 | 13=>true
 | 14=>true
 | 21=>true
 | 22=>true
 | 23=>true
 | _=>false
theorem zwt:∀ i j,i<34→j<34→zho i=zho j→i=j:=fun i j hi hj=>(by decide:∀ i,i<34→∀ j,j<34→zho i=zho j→i=j) i hi j hj
theorem zfh (id:Nat) (Q:Exit→Act→World→Prop) (base:Act) (W0:World) (g1:Nat) (zb:Nat) (f:Rat) (sg:Int) (li:Int) (bd:Bool) (hs:133<base.tmps.size) (e1:base.eval (.tmp 1)=.pointer (some ⟨g1,0,none⟩)) (e6:base.eval (.tmp 6)=.bool bd)
   (c0:W0.cell? ⟨g1,0,none⟩=some (.int .i64 2)) (c3:W0.cell? ⟨g1,3,none⟩=some (.int .i64 li)) (hli:¬ li<1)
   (hQ:∀ w,But [] W0 w→Q .normal (bi base [(100,.pointer (some ⟨g1,0,none⟩)),(101,.int .i64 2),(102,.bool false),(103,.bool false),(104,undef),(105,undef),(106,undef),(107,undef),(108,undef),(109,undef),(110,undef),(111,undef),(112,undef),(113,undef),(114,undef),(115,.bool false),(116,.bool false),(117,.pointer (some ⟨g1,0,none⟩)),(118,.int .i64 2),(119,.bool true),(120,.bool true),(121,undef),(122,undef),(123,undef),(124,.bool true),(125,.bool true),(126,.pointer (some ⟨g1,3,none⟩)),(127,.int .i64 li),(128,.bool false),(129,.bool false),(130,.bool false),(131,.bool false),(132,.bool bd),(133,.bool bd)]) w) :
   (Code.region id za true).wp prog Q base W0:=by(
 have hdr:∀ {w},But [] W0.drew w→But [] W0 w:=fun h=>(But.refl _ _).drew.trans' h
 have hT:∀ i,i<34→zho i<base.tmps.size:=fun i hi=>by
  have h:zho i≤133:=by revert i;decide
  omega
 have hCb:∀ i w w' v,i<34→zut g1 zb f sg li bd i w v→zut g1 zb f sg li bd i w' v:=fun i w w' v hi h=>by
  have:i=0∨i=1∨i=2∨i=3∨i=4∨i=5∨i=6∨i=7∨i=8∨i=9∨i=10∨i=11∨i=12∨i=13∨i=14∨i=15∨i=16∨i=17∨i=18∨i=19∨i=20∨i=21∨i=22∨i=23∨i=24∨i=25∨i=26∨i=27∨i=28∨i=29∨i=30∨i=31∨i=32∨i=33:=by omega
  rcases this with rfl|rfl|rfl|rfl|rfl|rfl|rfl|rfl|rfl|rfl|rfl|rfl|rfl|rfl|rfl|rfl|rfl|rfl|rfl|rfl|rfl|rfl|rfl|rfl|rfl|rfl|rfl|rfl|rfl|rfl|rfl|rfl|rfl|rfl
  ·exact (show v=.pointer (some ⟨g1,0,none⟩) from h)
  ·exact (show v=.int .i64 2 from h)
  ·exact (show v=.bool false from h)
  ·exact (show v=.bool false from h)
  ·exact (show v=undef from h)
  ·exact (show v=undef from h)
  ·exact (show v=undef from h)
  ·exact (show v=undef from h)
  ·exact (show v=undef from h)
  ·exact (show v=undef from h)
  ·exact (show v=undef from h)
  ·exact (show v=undef from h)
  ·exact (show v=undef from h)
  ·exact (show v=undef from h)
  ·exact (show v=undef from h)
  ·exact (show v=.bool false from h)
  ·exact (show v=.bool false from h)
  ·exact (show v=.pointer (some ⟨g1,0,none⟩) from h)
  ·exact (show v=.int .i64 2 from h)
  ·exact (show v=.bool true from h)
  ·exact (show v=.bool true from h)
  ·exact (show v=undef from h)
  ·exact (show v=undef from h)
  ·exact (show v=undef from h)
  ·exact (show v=.bool true from h)
  ·exact (show v=.bool true from h)
  ·exact (show v=.pointer (some ⟨g1,3,none⟩) from h)
  ·exact (show v=.int .i64 li from h)
  ·exact (show v=.bool false from h)
  ·exact (show v=.bool false from h)
  ·exact (show v=.bool false from h)
  ·exact (show v=.bool false from h)
  ·exact (show v=.bool bd from h)
  ·exact (show v=.bool bd from h)
 refine ji (by kernel_rfl) (di (by kernel_rfl)) (zut g1 zb f sg li bd) zho (by kernel_rfl) qgw ?_ ?_ ?_ zwt hT (fun i w w' v hi h _=>hCb i w w' v hi h) ?_ ?_
 ·(
 intro i o j want ho hg w v hv
 have hi:i<34:=(Array.getElem?_eq_some_iff.1 ho).1
 have:i=0∨i=1∨i=2∨i=3∨i=4∨i=5∨i=6∨i=7∨i=8∨i=9∨i=10∨i=11∨i=12∨i=13∨i=14∨i=15∨i=16∨i=17∨i=18∨i=19∨i=20∨i=21∨i=22∨i=23∨i=24∨i=25∨i=26∨i=27∨i=28∨i=29∨i=30∨i=31∨i=32∨i=33:=by omega
 rcases this with rfl|rfl|rfl|rfl|rfl|rfl|rfl|rfl|rfl|rfl|rfl|rfl|rfl|rfl|rfl|rfl|rfl|rfl|rfl|rfl|rfl|rfl|rfl|rfl|rfl|rfl|rfl|rfl|rfl|rfl|rfl|rfl|rfl|rfl
 ·obtain rfl:=so (show za[0]? =some p8 from rfl) ho
  exact absurd (show (none:Option (Nat × Bool))=some (j,want) from hg) (by simp)
 ·obtain rfl:=so (show za[1]? =some pz from rfl) ho
  exact absurd (show (none:Option (Nat × Bool))=some (j,want) from hg) (by simp)
 ·obtain rfl:=so (show za[2]? =some pu from rfl) ho
  exact absurd (show (none:Option (Nat × Bool))=some (j,want) from hg) (by simp)
 ·obtain rfl:=so (show za[3]? =some pg from rfl) ho
  exact absurd (show (none:Option (Nat × Bool))=some (j,want) from hg) (by simp)
 ·obtain rfl:=so (show za[4]? =some o9 from rfl) ho
  obtain⟨rfl,rfl⟩:=Prod.mk.inj (Option.some.inj (show some (3,true)=some (j,want) from hg))
  exact⟨fun _=>.inr hv,fun h=>absurd (show true=false from h) (by simp)⟩
 ·obtain rfl:=so (show za[5]? =some o8 from rfl) ho
  obtain⟨rfl,rfl⟩:=Prod.mk.inj (Option.some.inj (show some (3,true)=some (j,want) from hg))
  exact⟨fun _=>.inr hv,fun h=>absurd (show true=false from h) (by simp)⟩
 ·obtain rfl:=so (show za[6]? =some o7 from rfl) ho
  obtain⟨rfl,rfl⟩:=Prod.mk.inj (Option.some.inj (show some (3,true)=some (j,want) from hg))
  exact⟨fun _=>.inr hv,fun h=>absurd (show true=false from h) (by simp)⟩
 ·obtain rfl:=so (show za[7]? =some oz from rfl) ho
  obtain⟨rfl,rfl⟩:=Prod.mk.inj (Option.some.inj (show some (3,true)=some (j,want) from hg))
  exact⟨fun _=>.inr hv,fun h=>absurd (show true=false from h) (by simp)⟩
 ·obtain rfl:=so (show za[8]? =some ow from rfl) ho
  obtain⟨rfl,rfl⟩:=Prod.mk.inj (Option.some.inj (show some (3,true)=some (j,want) from hg))
  exact⟨fun _=>.inr hv,fun h=>absurd (show true=false from h) (by simp)⟩
 ·obtain rfl:=so (show za[9]? =some ou from rfl) ho
  obtain⟨rfl,rfl⟩:=Prod.mk.inj (Option.some.inj (show some (8,false)=some (j,want) from hg))
  exact⟨fun _=>.inl hv,fun h=>absurd (show true=false from h) (by simp)⟩
 ·obtain rfl:=so (show za[10]? =some wu from rfl) ho
  obtain⟨rfl,rfl⟩:=Prod.mk.inj (Option.some.inj (show some (8,false)=some (j,want) from hg))
  exact⟨fun _=>.inl hv,fun h=>absurd (show true=false from h) (by simp)⟩
 ·obtain rfl:=so (show za[11]? =some wh from rfl) ho
  obtain⟨rfl,rfl⟩:=Prod.mk.inj (Option.some.inj (show some (8,false)=some (j,want) from hg))
  exact⟨fun _=>.inl hv,fun h=>absurd (show true=false from h) (by simp)⟩
 ·obtain rfl:=so (show za[12]? =some y9 from rfl) ho
  obtain⟨rfl,rfl⟩:=Prod.mk.inj (Option.some.inj (show some (8,false)=some (j,want) from hg))
  exact⟨fun _=>.inl hv,fun h=>absurd (show true=false from h) (by simp)⟩
 ·obtain rfl:=so (show za[13]? =some y8 from rfl) ho
  obtain⟨rfl,rfl⟩:=Prod.mk.inj (Option.some.inj (show some (8,false)=some (j,want) from hg))
  exact⟨fun _=>.inl hv,fun h=>absurd (show true=false from h) (by simp)⟩
 ·obtain rfl:=so (show za[14]? =some y7 from rfl) ho
  obtain⟨rfl,rfl⟩:=Prod.mk.inj (Option.some.inj (show some (3,true)=some (j,want) from hg))
  exact⟨fun _=>.inr hv,fun h=>absurd (show true=false from h) (by simp)⟩
 ·obtain rfl:=so (show za[15]? =some yx from rfl) ho
  exact absurd (show (none:Option (Nat × Bool))=some (j,want) from hg) (by simp)
 ·obtain rfl:=so (show za[16]? =some yw from rfl) ho
  exact absurd (show (none:Option (Nat × Bool))=some (j,want) from hg) (by simp)
 ·obtain rfl:=so (show za[17]? =some yu from rfl) ho
  obtain⟨rfl,rfl⟩:=Prod.mk.inj (Option.some.inj (show some (16,false)=some (j,want) from hg))
  exact⟨fun h=>absurd (show false=true from h) (by simp),fun _=>hv⟩
 ·obtain rfl:=so (show za[18]? =some yt from rfl) ho
  obtain⟨rfl,rfl⟩:=Prod.mk.inj (Option.some.inj (show some (16,false)=some (j,want) from hg))
  exact⟨fun h=>absurd (show false=true from h) (by simp),fun _=>hv⟩
 ·obtain rfl:=so (show za[19]? =some yo from rfl) ho
  obtain⟨rfl,rfl⟩:=Prod.mk.inj (Option.some.inj (show some (16,false)=some (j,want) from hg))
  exact⟨fun h=>absurd (show false=true from h) (by simp),fun _=>hv⟩
 ·obtain rfl:=so (show za[20]? =some yj from rfl) ho
  obtain⟨rfl,rfl⟩:=Prod.mk.inj (Option.some.inj (show some (16,false)=some (j,want) from hg))
  exact⟨fun h=>absurd (show false=true from h) (by simp),fun _=>hv⟩
 ·obtain rfl:=so (show za[21]? =some yh from rfl) ho
  obtain⟨rfl,rfl⟩:=Prod.mk.inj (Option.some.inj (show some (20,false)=some (j,want) from hg))
  exact⟨fun _=>.inr hv,fun h=>absurd (show true=false from h) (by simp)⟩
 ·obtain rfl:=so (show za[22]? =some yg from rfl) ho
  obtain⟨rfl,rfl⟩:=Prod.mk.inj (Option.some.inj (show some (20,false)=some (j,want) from hg))
  exact⟨fun _=>.inr hv,fun h=>absurd (show true=false from h) (by simp)⟩
 ·obtain rfl:=so (show za[23]? =some yc from rfl) ho
  obtain⟨rfl,rfl⟩:=Prod.mk.inj (Option.some.inj (show some (20,false)=some (j,want) from hg))
  exact⟨fun _=>.inr hv,fun h=>absurd (show true=false from h) (by simp)⟩
 ·obtain rfl:=so (show za[24]? =some vz from rfl) ho
  obtain⟨rfl,rfl⟩:=Prod.mk.inj (Option.some.inj (show some (16,false)=some (j,want) from hg))
  exact⟨fun h=>absurd (show false=true from h) (by simp),fun _=>hv⟩
 ·obtain rfl:=so (show za[25]? =some vw from rfl) ho
  obtain⟨rfl,rfl⟩:=Prod.mk.inj (Option.some.inj (show some (16,false)=some (j,want) from hg))
  exact⟨fun h=>absurd (show false=true from h) (by simp),fun _=>hv⟩
 ·obtain rfl:=so (show za[26]? =some vv from rfl) ho
  obtain⟨rfl,rfl⟩:=Prod.mk.inj (Option.some.inj (show some (25,true)=some (j,want) from hg))
  exact⟨fun h=>absurd (show false=true from h) (by simp),fun _=>hv⟩
 ·obtain rfl:=so (show za[27]? =some ve from rfl) ho
  obtain⟨rfl,rfl⟩:=Prod.mk.inj (Option.some.inj (show some (25,true)=some (j,want) from hg))
  exact⟨fun h=>absurd (show false=true from h) (by simp),fun _=>hv⟩
 ·obtain rfl:=so (show za[28]? =some kz from rfl) ho
  obtain⟨rfl,rfl⟩:=Prod.mk.inj (Option.some.inj (show some (25,true)=some (j,want) from hg))
  exact⟨fun h=>absurd (show false=true from h) (by simp),fun _=>hv⟩
 ·obtain rfl:=so (show za[29]? =some ky from rfl) ho
  obtain⟨rfl,rfl⟩:=Prod.mk.inj (Option.some.inj (show some (16,false)=some (j,want) from hg))
  exact⟨fun h=>absurd (show false=true from h) (by simp),fun _=>hv⟩
 ·obtain rfl:=so (show za[30]? =some kw from rfl) ho
  exact absurd (show (none:Option (Nat × Bool))=some (j,want) from hg) (by simp)
 ·obtain rfl:=so (show za[31]? =some kv from rfl) ho
  exact absurd (show (none:Option (Nat × Bool))=some (j,want) from hg) (by simp)
 ·obtain rfl:=so (show za[32]? =some ku from rfl) ho
  obtain⟨rfl,rfl⟩:=Prod.mk.inj (Option.some.inj (show some (31,false)=some (j,want) from hg))
  exact⟨fun h=>absurd (show false=true from h) (by simp),fun _=>hv⟩
 ·obtain rfl:=so (show za[33]? =some kr from rfl) ho
  exact absurd (show (none:Option (Nat × Bool))=some (j,want) from hg) (by simp))
 ·(
 intro i o ho hk hg
 have hi:i<34:=(Array.getElem?_eq_some_iff.1 ho).1
 have:i=0∨i=1∨i=2∨i=3∨i=4∨i=5∨i=6∨i=7∨i=8∨i=9∨i=10∨i=11∨i=12∨i=13∨i=14∨i=15∨i=16∨i=17∨i=18∨i=19∨i=20∨i=21∨i=22∨i=23∨i=24∨i=25∨i=26∨i=27∨i=28∨i=29∨i=30∨i=31∨i=32∨i=33:=by omega
 rcases this with rfl|rfl|rfl|rfl|rfl|rfl|rfl|rfl|rfl|rfl|rfl|rfl|rfl|rfl|rfl|rfl|rfl|rfl|rfl|rfl|rfl|rfl|rfl|rfl|rfl|rfl|rfl|rfl|rfl|rfl|rfl|rfl|rfl|rfl
 ·exact absurd (show false=true from hk) (by simp)
 ·exact absurd (show false=true from hk) (by simp)
 ·exact absurd (show false=true from hk) (by simp)
 ·exact absurd (show false=true from hk) (by simp)
 ·obtain rfl:=so (show za[4]? =some o9 from rfl) ho
  exact absurd (show some (3,true)=(none:Option (Nat × Bool)) from hg) (by simp)
 ·obtain rfl:=so (show za[5]? =some o8 from rfl) ho
  exact absurd (show some (3,true)=(none:Option (Nat × Bool)) from hg) (by simp)
 ·obtain rfl:=so (show za[6]? =some o7 from rfl) ho
  exact absurd (show some (3,true)=(none:Option (Nat × Bool)) from hg) (by simp)
 ·obtain rfl:=so (show za[7]? =some oz from rfl) ho
  exact absurd (show some (3,true)=(none:Option (Nat × Bool)) from hg) (by simp)
 ·obtain rfl:=so (show za[8]? =some ow from rfl) ho
  exact absurd (show some (3,true)=(none:Option (Nat × Bool)) from hg) (by simp)
 ·obtain rfl:=so (show za[9]? =some ou from rfl) ho
  exact absurd (show some (8,false)=(none:Option (Nat × Bool)) from hg) (by simp)
 ·obtain rfl:=so (show za[10]? =some wu from rfl) ho
  exact absurd (show some (8,false)=(none:Option (Nat × Bool)) from hg) (by simp)
 ·obtain rfl:=so (show za[11]? =some wh from rfl) ho
  exact absurd (show some (8,false)=(none:Option (Nat × Bool)) from hg) (by simp)
 ·obtain rfl:=so (show za[12]? =some y9 from rfl) ho
  exact absurd (show some (8,false)=(none:Option (Nat × Bool)) from hg) (by simp)
 ·obtain rfl:=so (show za[13]? =some y8 from rfl) ho
  exact absurd (show some (8,false)=(none:Option (Nat × Bool)) from hg) (by simp)
 ·obtain rfl:=so (show za[14]? =some y7 from rfl) ho
  exact absurd (show some (3,true)=(none:Option (Nat × Bool)) from hg) (by simp)
 ·exact absurd (show false=true from hk) (by simp)
 ·exact absurd (show false=true from hk) (by simp)
 ·exact absurd (show false=true from hk) (by simp)
 ·exact absurd (show false=true from hk) (by simp)
 ·exact absurd (show false=true from hk) (by simp)
 ·exact absurd (show false=true from hk) (by simp)
 ·obtain rfl:=so (show za[21]? =some yh from rfl) ho
  exact absurd (show some (20,false)=(none:Option (Nat × Bool)) from hg) (by simp)
 ·obtain rfl:=so (show za[22]? =some yg from rfl) ho
  exact absurd (show some (20,false)=(none:Option (Nat × Bool)) from hg) (by simp)
 ·obtain rfl:=so (show za[23]? =some yc from rfl) ho
  exact absurd (show some (20,false)=(none:Option (Nat × Bool)) from hg) (by simp)
 ·exact absurd (show false=true from hk) (by simp)
 ·exact absurd (show false=true from hk) (by simp)
 ·exact absurd (show false=true from hk) (by simp)
 ·exact absurd (show false=true from hk) (by simp)
 ·exact absurd (show false=true from hk) (by simp)
 ·exact absurd (show false=true from hk) (by simp)
 ·exact absurd (show false=true from hk) (by simp)
 ·exact absurd (show false=true from hk) (by simp)
 ·exact absurd (show false=true from hk) (by simp)
 ·exact absurd (show false=true from hk) (by simp))
 ·(
 intro i w hk
 by_cases hi:i<34
 ·(
 have:i=0∨i=1∨i=2∨i=3∨i=4∨i=5∨i=6∨i=7∨i=8∨i=9∨i=10∨i=11∨i=12∨i=13∨i=14∨i=15∨i=16∨i=17∨i=18∨i=19∨i=20∨i=21∨i=22∨i=23∨i=24∨i=25∨i=26∨i=27∨i=28∨i=29∨i=30∨i=31∨i=32∨i=33:=by omega
 rcases this with rfl|rfl|rfl|rfl|rfl|rfl|rfl|rfl|rfl|rfl|rfl|rfl|rfl|rfl|rfl|rfl|rfl|rfl|rfl|rfl|rfl|rfl|rfl|rfl|rfl|rfl|rfl|rfl|rfl|rfl|rfl|rfl|rfl|rfl
 ·exact absurd (show false=true from hk) (by simp)
 ·exact absurd (show false=true from hk) (by simp)
 ·exact absurd (show false=true from hk) (by simp)
 ·exact absurd (show false=true from hk) (by simp)
 ·exact (show undef=undef from rfl)
 ·exact (show undef=undef from rfl)
 ·exact (show undef=undef from rfl)
 ·exact (show undef=undef from rfl)
 ·exact (show undef=undef from rfl)
 ·exact (show undef=undef from rfl)
 ·exact (show undef=undef from rfl)
 ·exact (show undef=undef from rfl)
 ·exact (show undef=undef from rfl)
 ·exact (show undef=undef from rfl)
 ·exact (show undef=undef from rfl)
 ·exact absurd (show false=true from hk) (by simp)
 ·exact absurd (show false=true from hk) (by simp)
 ·exact absurd (show false=true from hk) (by simp)
 ·exact absurd (show false=true from hk) (by simp)
 ·exact absurd (show false=true from hk) (by simp)
 ·exact absurd (show false=true from hk) (by simp)
 ·exact (show undef=undef from rfl)
 ·exact (show undef=undef from rfl)
 ·exact (show undef=undef from rfl)
 ·exact absurd (show false=true from hk) (by simp)
 ·exact absurd (show false=true from hk) (by simp)
 ·exact absurd (show false=true from hk) (by simp)
 ·exact absurd (show false=true from hk) (by simp)
 ·exact absurd (show false=true from hk) (by simp)
 ·exact absurd (show false=true from hk) (by simp)
 ·exact absurd (show false=true from hk) (by simp)
 ·exact absurd (show false=true from hk) (by simp)
 ·exact absurd (show false=true from hk) (by simp)
 ·exact absurd (show false=true from hk) (by simp))
 ·(
 exfalso
 unfold qgw at hk
 split at hk
 ·omega
 ·omega
 ·omega
 ·omega
 ·omega
 ·omega
 ·omega
 ·omega
 ·omega
 ·omega
 ·omega
 ·omega
 ·omega
 ·omega
 ·simp at hk))
 ·(
 intro i o a w K hki ho hH he hdep hk
 have hi:i<34:=(Array.getElem?_eq_some_iff.1 ho).1
 have hD:=jq (ps:=[(1,0),(2,1),(3,2),(4,3),(5,3),(5,4),(6,3),(6,5),(7,3),(7,6),(8,3),(8,6),(8,7),(9,8),(10,8),(10,9),(11,8),(12,8),(12,10),(12,11),(13,8),(13,12),(14,3),(14,8),(14,13),(15,3),(15,14),(16,12),(16,15),(17,16),(18,16),(18,17),(19,16),(19,18),(20,16),(20,19),(21,20),(22,20),(22,21),(23,20),(23,22),(24,16),(24,20),(24,23),(25,16),(25,20),(25,24),(26,25),(27,25),(27,26),(28,25),(28,27),(29,16),(29,25),(29,28),(30,16),(30,29),(31,25),(31,30),(32,31),(33,31),(33,32)]) (by kernel_rfl) ho (fun j=>zut g1 zb f sg li bd j w (a.eval (.tmp (zho j)))) hdep
 have e1':=(he 1 (fun j hj e=>absurd e.symm (by revert j;decide))).trans e1
 have e6':=(he 6 (fun j hj e=>absurd e.symm (by revert j;decide))).trans e6
 have:i=0∨i=1∨i=2∨i=3∨i=4∨i=5∨i=6∨i=7∨i=8∨i=9∨i=10∨i=11∨i=12∨i=13∨i=14∨i=15∨i=16∨i=17∨i=18∨i=19∨i=20∨i=21∨i=22∨i=23∨i=24∨i=25∨i=26∨i=27∨i=28∨i=29∨i=30∨i=31∨i=32∨i=33:=by omega
 rcases this with rfl|rfl|rfl|rfl|rfl|rfl|rfl|rfl|rfl|rfl|rfl|rfl|rfl|rfl|rfl|rfl|rfl|rfl|rfl|rfl|rfl|rfl|rfl|rfl|rfl|rfl|rfl|rfl|rfl|rfl|rfl|rfl|rfl|rfl
 ·obtain rfl:=so (show za[0]? =some p8 from rfl) ho
  exact al (je a w _ _ _ _ _ _ g1 e1') (hk _ _ (But.refl _ _) rfl)
 ·obtain rfl:=so (show za[1]? =some pz from rfl) ho
  exact al (z8 a w _ _ _ _ _ _ g1 0 _ (hD 0 (by simp)) ((hdr hH).ag c0 (by simp))) (hk _ _ (But.refl _ _) rfl)
 ·obtain rfl:=so (show za[2]? =some pu from rfl) ho
  exact al (jf a w _ _ _ _ _ _ 2 1 false rfl (hD 1 (by simp))) (hk _ _ (But.refl _ _) rfl)
 ·obtain rfl:=so (show za[3]? =some pg from rfl) ho
  exact al (br a w _ _ _ _ _ _ _ (hD 2 (by simp))) (hk _ _ (But.refl _ _) rfl)
 ·exact absurd (show true=false from hki) (by simp)
 ·exact absurd (show true=false from hki) (by simp)
 ·exact absurd (show true=false from hki) (by simp)
 ·exact absurd (show true=false from hki) (by simp)
 ·exact absurd (show true=false from hki) (by simp)
 ·exact absurd (show true=false from hki) (by simp)
 ·exact absurd (show true=false from hki) (by simp)
 ·exact absurd (show true=false from hki) (by simp)
 ·exact absurd (show true=false from hki) (by simp)
 ·exact absurd (show true=false from hki) (by simp)
 ·exact absurd (show true=false from hki) (by simp)
 ·obtain rfl:=so (show za[15]? =some yx from rfl) ho
  exact al (jh a w _ _ _ _ _ _ _ false (undef) _ rfl (hD 3 (by simp)) (hD 14 (by simp))) (hk _ _ (But.refl _ _) rfl)
 ·obtain rfl:=so (show za[16]? =some yw from rfl) ho
  exact al (br a w _ _ _ _ _ _ _ (hD 15 (by simp))) (hk _ _ (But.refl _ _) rfl)
 ·obtain rfl:=so (show za[17]? =some yu from rfl) ho
  exact al (je a w _ _ _ _ _ _ g1 e1') (hk _ _ (But.refl _ _) rfl)
 ·obtain rfl:=so (show za[18]? =some yt from rfl) ho
  exact al (z8 a w _ _ _ _ _ _ g1 0 _ (hD 17 (by simp)) ((hdr hH).ag c0 (by simp))) (hk _ _ (But.refl _ _) rfl)
 ·obtain rfl:=so (show za[19]? =some yo from rfl) ho
  exact al (jf a w _ _ _ _ _ _ 2 2 true rfl (hD 18 (by simp))) (hk _ _ (But.refl _ _) rfl)
 ·obtain rfl:=so (show za[20]? =some yj from rfl) ho
  exact al (br a w _ _ _ _ _ _ _ (hD 19 (by simp))) (hk _ _ (But.refl _ _) rfl)
 ·exact absurd (show true=false from hki) (by simp)
 ·exact absurd (show true=false from hki) (by simp)
 ·exact absurd (show true=false from hki) (by simp)
 ·obtain rfl:=so (show za[24]? =some vz from rfl) ho
  exact al (qi a w _ _ _ _ _ _ _ true (undef) _ rfl (hD 20 (by simp)) (hD 23 (by simp))) (hk _ _ (But.refl _ _) rfl)
 ·obtain rfl:=so (show za[25]? =some vw from rfl) ho
  exact al (br a w _ _ _ _ _ _ _ (hD 24 (by simp))) (hk _ _ (But.refl _ _) rfl)
 ·obtain rfl:=so (show za[26]? =some vv from rfl) ho
  exact al (zbs a w _ _ _ _ _ _ g1 e1') (hk _ _ (But.refl _ _) rfl)
 ·obtain rfl:=so (show za[27]? =some ve from rfl) ho
  exact al (z8 a w _ _ _ _ _ _ g1 3 _ (hD 26 (by simp)) ((hdr hH).ag c3 (by simp))) (hk _ _ (But.refl _ _) rfl)
 ·obtain rfl:=so (show za[28]? =some kz from rfl) ho
  exact al (zbt a w _ _ _ _ _ _ li 1 false (decide_eq_false hli).symm (hD 27 (by simp))) (hk _ _ (But.refl _ _) rfl)
 ·obtain rfl:=so (show za[29]? =some ky from rfl) ho
  exact al (jh a w _ _ _ _ _ _ _ true (.bool false) _ rfl (hD 25 (by simp)) (hD 28 (by simp))) (hk _ _ (But.refl _ _) rfl)
 ·obtain rfl:=so (show za[30]? =some kw from rfl) ho
  exact al (qi a w _ _ _ _ _ _ _ false (.bool false) _ rfl (hD 16 (by simp)) (hD 29 (by simp))) (hk _ _ (But.refl _ _) rfl)
 ·obtain rfl:=so (show za[31]? =some kv from rfl) ho
  exact al (br a w _ _ _ _ _ _ _ (hD 30 (by simp))) (hk _ _ (But.refl _ _) rfl)
 ·obtain rfl:=so (show za[32]? =some ku from rfl) ho
  exact al (br a w _ _ _ _ _ _ _ e6') (hk _ _ (But.refl _ _) rfl)
 ·obtain rfl:=so (show za[33]? =some kr from rfl) ho
  exact al (qi a w _ _ _ _ _ _ _ false (.bool bd) _ rfl (hD 31 (by simp)) (hD 32 (by simp))) (hk _ _ (But.refl _ _) rfl))
 ·(
 intro a w h
 have ea:=h.puts hT (fun i=>match i with
  | 0=>.pointer (some ⟨g1,0,none⟩)
  | 1=>.int .i64 2
  | 2=>.bool false
  | 3=>.bool false
  | 4=>undef
  | 5=>undef
  | 6=>undef
  | 7=>undef
  | 8=>undef
  | 9=>undef
  | 10=>undef
  | 11=>undef
  | 12=>undef
  | 13=>undef
  | 14=>undef
  | 15=>.bool false
  | 16=>.bool false
  | 17=>.pointer (some ⟨g1,0,none⟩)
  | 18=>.int .i64 2
  | 19=>.bool true
  | 20=>.bool true
  | 21=>undef
  | 22=>undef
  | 23=>undef
  | 24=>.bool true
  | 25=>.bool true
  | 26=>.pointer (some ⟨g1,3,none⟩)
  | 27=>.int .i64 li
  | 28=>.bool false
  | 29=>.bool false
  | 30=>.bool false
  | 31=>.bool false
  | 32=>.bool bd
  | _=>.bool bd) (fun i hi=>by
  have hi':i<34:=hi
  have hc:=h.has i hi rfl
  have:i=0∨i=1∨i=2∨i=3∨i=4∨i=5∨i=6∨i=7∨i=8∨i=9∨i=10∨i=11∨i=12∨i=13∨i=14∨i=15∨i=16∨i=17∨i=18∨i=19∨i=20∨i=21∨i=22∨i=23∨i=24∨i=25∨i=26∨i=27∨i=28∨i=29∨i=30∨i=31∨i=32∨i=33:=by omega
  rcases this with rfl|rfl|rfl|rfl|rfl|rfl|rfl|rfl|rfl|rfl|rfl|rfl|rfl|rfl|rfl|rfl|rfl|rfl|rfl|rfl|rfl|rfl|rfl|rfl|rfl|rfl|rfl|rfl|rfl|rfl|rfl|rfl|rfl|rfl
  all_goals first | exact hc|rfl)
 rw[ea]
 exact hQ w (hdr h.but)))
def zhn (i:Nat):Nat:=match i with
 | 0=>100
 | 1=>101
 | 2=>102
 | 3=>103
 | 4=>104
 | 5=>105
 | 6=>106
 | 7=>107
 | 8=>108
 | 9=>109
 | 10=>110
 | 11=>111
 | 12=>112
 | 13=>113
 | 14=>114
 | 15=>115
 | 16=>116
 | 17=>117
 | 18=>118
 | 19=>119
 | 20=>120
 | 21=>121
 | 22=>122
 | 23=>123
 | 24=>124
 | 25=>125
 | 26=>126
 | 27=>127
 | 28=>128
 | 29=>129
 | 30=>130
 | 31=>131
 | 32=>132
 | _=>133
def zus (g1:Nat) (zb:Nat) (f:Rat) (sg:Int) (li:Int) (bd:Bool) (i:Nat) (_w:World) (v:Value):Prop:=match i with
 | 0=>v=.pointer (some ⟨g1,0,none⟩)
 | 1=>v=.int .i64 3
 | 2=>v=.bool false
 | 3=>v=.bool false
 | 4=>v=undef
 | 5=>v=undef
 | 6=>v=undef
 | 7=>v=undef
 | 8=>v=undef
 | 9=>v=undef
 | 10=>v=undef
 | 11=>v=undef
 | 12=>v=undef
 | 13=>v=undef
 | 14=>v=undef
 | 15=>v=.bool false
 | 16=>v=.bool false
 | 17=>v=.pointer (some ⟨g1,0,none⟩)
 | 18=>v=.int .i64 3
 | 19=>v=.bool false
 | 20=>v=.bool false
 | 21=>v=.pointer (some ⟨g1,0,none⟩)
 | 22=>v=.int .i64 3
 | 23=>v=.bool true
 | 24=>v=.bool true
 | 25=>v=.bool true
 | 26=>v=.pointer (some ⟨g1,3,none⟩)
 | 27=>v=.int .i64 li
 | 28=>v=.bool true
 | 29=>v=.bool true
 | 30=>v=.bool true
 | 31=>v=.bool true
 | 32=>v=undef
 | _=>v=.bool true
def qgv (i:Nat):Bool:=match i with
 | 4=>true
 | 5=>true
 | 6=>true
 | 7=>true
 | 8=>true
 | 9=>true
 | 10=>true
 | 11=>true
 | 12=>true
 | 13=>true
 | 14=>true
 | 32=>true
 | _=>false
theorem zws:∀ i j,i<34→j<34→zhn i=zhn j→i=j:=fun i j hi hj=>(by decide:∀ i,i<34→∀ j,j<34→zhn i=zhn j→i=j) i hi j hj
theorem zhw (id:Nat) (Q:Exit→Act→World→Prop) (base:Act) (W0:World) (g1:Nat) (zb:Nat) (f:Rat) (sg:Int) (li:Int) (bd:Bool) (hs:133<base.tmps.size) (e1:base.eval (.tmp 1)=.pointer (some ⟨g1,0,none⟩)) (e6:base.eval (.tmp 6)=.bool bd)
   (c0:W0.cell? ⟨g1,0,none⟩=some (.int .i64 3)) (c3:W0.cell? ⟨g1,3,none⟩=some (.int .i64 li)) (hli:li<1)
   (hQ:∀ w,But [] W0 w→Q .normal (bi base [(100,.pointer (some ⟨g1,0,none⟩)),(101,.int .i64 3),(102,.bool false),(103,.bool false),(104,undef),(105,undef),(106,undef),(107,undef),(108,undef),(109,undef),(110,undef),(111,undef),(112,undef),(113,undef),(114,undef),(115,.bool false),(116,.bool false),(117,.pointer (some ⟨g1,0,none⟩)),(118,.int .i64 3),(119,.bool false),(120,.bool false),(121,.pointer (some ⟨g1,0,none⟩)),(122,.int .i64 3),(123,.bool true),(124,.bool true),(125,.bool true),(126,.pointer (some ⟨g1,3,none⟩)),(127,.int .i64 li),(128,.bool true),(129,.bool true),(130,.bool true),(131,.bool true),(132,undef),(133,.bool true)]) w) :
   (Code.region id za true).wp prog Q base W0:=by(
 have hdr:∀ {w},But [] W0.drew w→But [] W0 w:=fun h=>(But.refl _ _).drew.trans' h
 have hT:∀ i,i<34→zhn i<base.tmps.size:=fun i hi=>by
  have h:zhn i≤133:=by revert i;decide
  omega
 have hCb:∀ i w w' v,i<34→zus g1 zb f sg li bd i w v→zus g1 zb f sg li bd i w' v:=fun i w w' v hi h=>by
  have:i=0∨i=1∨i=2∨i=3∨i=4∨i=5∨i=6∨i=7∨i=8∨i=9∨i=10∨i=11∨i=12∨i=13∨i=14∨i=15∨i=16∨i=17∨i=18∨i=19∨i=20∨i=21∨i=22∨i=23∨i=24∨i=25∨i=26∨i=27∨i=28∨i=29∨i=30∨i=31∨i=32∨i=33:=by omega
  rcases this with rfl|rfl|rfl|rfl|rfl|rfl|rfl|rfl|rfl|rfl|rfl|rfl|rfl|rfl|rfl|rfl|rfl|rfl|rfl|rfl|rfl|rfl|rfl|rfl|rfl|rfl|rfl|rfl|rfl|rfl|rfl|rfl|rfl|rfl
  ·exact (show v=.pointer (some ⟨g1,0,none⟩) from h)
  ·exact (show v=.int .i64 3 from h)
  ·exact (show v=.bool false from h)
  ·exact (show v=.bool false from h)
  ·exact (show v=undef from h)
  ·exact (show v=undef from h)
  ·exact (show v=undef from h)
  ·exact (show v=undef from h)
  ·exact (show v=undef from h)
  ·exact (show v=undef from h)
  ·exact (show v=undef from h)
  ·exact (show v=undef from h)
  ·exact (show v=undef from h)
  ·exact (show v=undef from h)
  ·exact (show v=undef from h)
  ·exact (show v=.bool false from h)
  ·exact (show v=.bool false from h)
  ·exact (show v=.pointer (some ⟨g1,0,none⟩) from h)
  ·exact (show v=.int .i64 3 from h)
  ·exact (show v=.bool false from h)
  ·exact (show v=.bool false from h)
  ·exact (show v=.pointer (some ⟨g1,0,none⟩) from h)
  ·exact (show v=.int .i64 3 from h)
  ·exact (show v=.bool true from h)
  ·exact (show v=.bool true from h)
  ·exact (show v=.bool true from h)
  ·exact (show v=.pointer (some ⟨g1,3,none⟩) from h)
  ·exact (show v=.int .i64 li from h)
  ·exact (show v=.bool true from h)
  ·exact (show v=.bool true from h)
  ·exact (show v=.bool true from h)
  ·exact (show v=.bool true from h)
  ·exact (show v=undef from h)
  ·exact (show v=.bool true from h)
 refine ji (by kernel_rfl) (di (by kernel_rfl)) (zus g1 zb f sg li bd) zhn (by kernel_rfl) qgv ?_ ?_ ?_ zws hT (fun i w w' v hi h _=>hCb i w w' v hi h) ?_ ?_
 ·(
 intro i o j want ho hg w v hv
 have hi:i<34:=(Array.getElem?_eq_some_iff.1 ho).1
 have:i=0∨i=1∨i=2∨i=3∨i=4∨i=5∨i=6∨i=7∨i=8∨i=9∨i=10∨i=11∨i=12∨i=13∨i=14∨i=15∨i=16∨i=17∨i=18∨i=19∨i=20∨i=21∨i=22∨i=23∨i=24∨i=25∨i=26∨i=27∨i=28∨i=29∨i=30∨i=31∨i=32∨i=33:=by omega
 rcases this with rfl|rfl|rfl|rfl|rfl|rfl|rfl|rfl|rfl|rfl|rfl|rfl|rfl|rfl|rfl|rfl|rfl|rfl|rfl|rfl|rfl|rfl|rfl|rfl|rfl|rfl|rfl|rfl|rfl|rfl|rfl|rfl|rfl|rfl
 ·obtain rfl:=so (show za[0]? =some p8 from rfl) ho
  exact absurd (show (none:Option (Nat × Bool))=some (j,want) from hg) (by simp)
 ·obtain rfl:=so (show za[1]? =some pz from rfl) ho
  exact absurd (show (none:Option (Nat × Bool))=some (j,want) from hg) (by simp)
 ·obtain rfl:=so (show za[2]? =some pu from rfl) ho
  exact absurd (show (none:Option (Nat × Bool))=some (j,want) from hg) (by simp)
 ·obtain rfl:=so (show za[3]? =some pg from rfl) ho
  exact absurd (show (none:Option (Nat × Bool))=some (j,want) from hg) (by simp)
 ·obtain rfl:=so (show za[4]? =some o9 from rfl) ho
  obtain⟨rfl,rfl⟩:=Prod.mk.inj (Option.some.inj (show some (3,true)=some (j,want) from hg))
  exact⟨fun _=>.inr hv,fun h=>absurd (show true=false from h) (by simp)⟩
 ·obtain rfl:=so (show za[5]? =some o8 from rfl) ho
  obtain⟨rfl,rfl⟩:=Prod.mk.inj (Option.some.inj (show some (3,true)=some (j,want) from hg))
  exact⟨fun _=>.inr hv,fun h=>absurd (show true=false from h) (by simp)⟩
 ·obtain rfl:=so (show za[6]? =some o7 from rfl) ho
  obtain⟨rfl,rfl⟩:=Prod.mk.inj (Option.some.inj (show some (3,true)=some (j,want) from hg))
  exact⟨fun _=>.inr hv,fun h=>absurd (show true=false from h) (by simp)⟩
 ·obtain rfl:=so (show za[7]? =some oz from rfl) ho
  obtain⟨rfl,rfl⟩:=Prod.mk.inj (Option.some.inj (show some (3,true)=some (j,want) from hg))
  exact⟨fun _=>.inr hv,fun h=>absurd (show true=false from h) (by simp)⟩
 ·obtain rfl:=so (show za[8]? =some ow from rfl) ho
  obtain⟨rfl,rfl⟩:=Prod.mk.inj (Option.some.inj (show some (3,true)=some (j,want) from hg))
  exact⟨fun _=>.inr hv,fun h=>absurd (show true=false from h) (by simp)⟩
 ·obtain rfl:=so (show za[9]? =some ou from rfl) ho
  obtain⟨rfl,rfl⟩:=Prod.mk.inj (Option.some.inj (show some (8,false)=some (j,want) from hg))
  exact⟨fun _=>.inl hv,fun h=>absurd (show true=false from h) (by simp)⟩
 ·obtain rfl:=so (show za[10]? =some wu from rfl) ho
  obtain⟨rfl,rfl⟩:=Prod.mk.inj (Option.some.inj (show some (8,false)=some (j,want) from hg))
  exact⟨fun _=>.inl hv,fun h=>absurd (show true=false from h) (by simp)⟩
 ·obtain rfl:=so (show za[11]? =some wh from rfl) ho
  obtain⟨rfl,rfl⟩:=Prod.mk.inj (Option.some.inj (show some (8,false)=some (j,want) from hg))
  exact⟨fun _=>.inl hv,fun h=>absurd (show true=false from h) (by simp)⟩
 ·obtain rfl:=so (show za[12]? =some y9 from rfl) ho
  obtain⟨rfl,rfl⟩:=Prod.mk.inj (Option.some.inj (show some (8,false)=some (j,want) from hg))
  exact⟨fun _=>.inl hv,fun h=>absurd (show true=false from h) (by simp)⟩
 ·obtain rfl:=so (show za[13]? =some y8 from rfl) ho
  obtain⟨rfl,rfl⟩:=Prod.mk.inj (Option.some.inj (show some (8,false)=some (j,want) from hg))
  exact⟨fun _=>.inl hv,fun h=>absurd (show true=false from h) (by simp)⟩
 ·obtain rfl:=so (show za[14]? =some y7 from rfl) ho
  obtain⟨rfl,rfl⟩:=Prod.mk.inj (Option.some.inj (show some (3,true)=some (j,want) from hg))
  exact⟨fun _=>.inr hv,fun h=>absurd (show true=false from h) (by simp)⟩
 ·obtain rfl:=so (show za[15]? =some yx from rfl) ho
  exact absurd (show (none:Option (Nat × Bool))=some (j,want) from hg) (by simp)
 ·obtain rfl:=so (show za[16]? =some yw from rfl) ho
  exact absurd (show (none:Option (Nat × Bool))=some (j,want) from hg) (by simp)
 ·obtain rfl:=so (show za[17]? =some yu from rfl) ho
  obtain⟨rfl,rfl⟩:=Prod.mk.inj (Option.some.inj (show some (16,false)=some (j,want) from hg))
  exact⟨fun h=>absurd (show false=true from h) (by simp),fun _=>hv⟩
 ·obtain rfl:=so (show za[18]? =some yt from rfl) ho
  obtain⟨rfl,rfl⟩:=Prod.mk.inj (Option.some.inj (show some (16,false)=some (j,want) from hg))
  exact⟨fun h=>absurd (show false=true from h) (by simp),fun _=>hv⟩
 ·obtain rfl:=so (show za[19]? =some yo from rfl) ho
  obtain⟨rfl,rfl⟩:=Prod.mk.inj (Option.some.inj (show some (16,false)=some (j,want) from hg))
  exact⟨fun h=>absurd (show false=true from h) (by simp),fun _=>hv⟩
 ·obtain rfl:=so (show za[20]? =some yj from rfl) ho
  obtain⟨rfl,rfl⟩:=Prod.mk.inj (Option.some.inj (show some (16,false)=some (j,want) from hg))
  exact⟨fun h=>absurd (show false=true from h) (by simp),fun _=>hv⟩
 ·obtain rfl:=so (show za[21]? =some yh from rfl) ho
  obtain⟨rfl,rfl⟩:=Prod.mk.inj (Option.some.inj (show some (20,false)=some (j,want) from hg))
  exact⟨fun h=>absurd (show false=true from h) (by simp),fun _=>hv⟩
 ·obtain rfl:=so (show za[22]? =some yg from rfl) ho
  obtain⟨rfl,rfl⟩:=Prod.mk.inj (Option.some.inj (show some (20,false)=some (j,want) from hg))
  exact⟨fun h=>absurd (show false=true from h) (by simp),fun _=>hv⟩
 ·obtain rfl:=so (show za[23]? =some yc from rfl) ho
  obtain⟨rfl,rfl⟩:=Prod.mk.inj (Option.some.inj (show some (20,false)=some (j,want) from hg))
  exact⟨fun h=>absurd (show false=true from h) (by simp),fun _=>hv⟩
 ·obtain rfl:=so (show za[24]? =some vz from rfl) ho
  obtain⟨rfl,rfl⟩:=Prod.mk.inj (Option.some.inj (show some (16,false)=some (j,want) from hg))
  exact⟨fun h=>absurd (show false=true from h) (by simp),fun _=>hv⟩
 ·obtain rfl:=so (show za[25]? =some vw from rfl) ho
  obtain⟨rfl,rfl⟩:=Prod.mk.inj (Option.some.inj (show some (16,false)=some (j,want) from hg))
  exact⟨fun h=>absurd (show false=true from h) (by simp),fun _=>hv⟩
 ·obtain rfl:=so (show za[26]? =some vv from rfl) ho
  obtain⟨rfl,rfl⟩:=Prod.mk.inj (Option.some.inj (show some (25,true)=some (j,want) from hg))
  exact⟨fun h=>absurd (show false=true from h) (by simp),fun _=>hv⟩
 ·obtain rfl:=so (show za[27]? =some ve from rfl) ho
  obtain⟨rfl,rfl⟩:=Prod.mk.inj (Option.some.inj (show some (25,true)=some (j,want) from hg))
  exact⟨fun h=>absurd (show false=true from h) (by simp),fun _=>hv⟩
 ·obtain rfl:=so (show za[28]? =some kz from rfl) ho
  obtain⟨rfl,rfl⟩:=Prod.mk.inj (Option.some.inj (show some (25,true)=some (j,want) from hg))
  exact⟨fun h=>absurd (show false=true from h) (by simp),fun _=>hv⟩
 ·obtain rfl:=so (show za[29]? =some ky from rfl) ho
  obtain⟨rfl,rfl⟩:=Prod.mk.inj (Option.some.inj (show some (16,false)=some (j,want) from hg))
  exact⟨fun h=>absurd (show false=true from h) (by simp),fun _=>hv⟩
 ·obtain rfl:=so (show za[30]? =some kw from rfl) ho
  exact absurd (show (none:Option (Nat × Bool))=some (j,want) from hg) (by simp)
 ·obtain rfl:=so (show za[31]? =some kv from rfl) ho
  exact absurd (show (none:Option (Nat × Bool))=some (j,want) from hg) (by simp)
 ·obtain rfl:=so (show za[32]? =some ku from rfl) ho
  obtain⟨rfl,rfl⟩:=Prod.mk.inj (Option.some.inj (show some (31,false)=some (j,want) from hg))
  exact⟨fun _=>.inr hv,fun h=>absurd (show true=false from h) (by simp)⟩
 ·obtain rfl:=so (show za[33]? =some kr from rfl) ho
  exact absurd (show (none:Option (Nat × Bool))=some (j,want) from hg) (by simp))
 ·(
 intro i o ho hk hg
 have hi:i<34:=(Array.getElem?_eq_some_iff.1 ho).1
 have:i=0∨i=1∨i=2∨i=3∨i=4∨i=5∨i=6∨i=7∨i=8∨i=9∨i=10∨i=11∨i=12∨i=13∨i=14∨i=15∨i=16∨i=17∨i=18∨i=19∨i=20∨i=21∨i=22∨i=23∨i=24∨i=25∨i=26∨i=27∨i=28∨i=29∨i=30∨i=31∨i=32∨i=33:=by omega
 rcases this with rfl|rfl|rfl|rfl|rfl|rfl|rfl|rfl|rfl|rfl|rfl|rfl|rfl|rfl|rfl|rfl|rfl|rfl|rfl|rfl|rfl|rfl|rfl|rfl|rfl|rfl|rfl|rfl|rfl|rfl|rfl|rfl|rfl|rfl
 ·exact absurd (show false=true from hk) (by simp)
 ·exact absurd (show false=true from hk) (by simp)
 ·exact absurd (show false=true from hk) (by simp)
 ·exact absurd (show false=true from hk) (by simp)
 ·obtain rfl:=so (show za[4]? =some o9 from rfl) ho
  exact absurd (show some (3,true)=(none:Option (Nat × Bool)) from hg) (by simp)
 ·obtain rfl:=so (show za[5]? =some o8 from rfl) ho
  exact absurd (show some (3,true)=(none:Option (Nat × Bool)) from hg) (by simp)
 ·obtain rfl:=so (show za[6]? =some o7 from rfl) ho
  exact absurd (show some (3,true)=(none:Option (Nat × Bool)) from hg) (by simp)
 ·obtain rfl:=so (show za[7]? =some oz from rfl) ho
  exact absurd (show some (3,true)=(none:Option (Nat × Bool)) from hg) (by simp)
 ·obtain rfl:=so (show za[8]? =some ow from rfl) ho
  exact absurd (show some (3,true)=(none:Option (Nat × Bool)) from hg) (by simp)
 ·obtain rfl:=so (show za[9]? =some ou from rfl) ho
  exact absurd (show some (8,false)=(none:Option (Nat × Bool)) from hg) (by simp)
 ·obtain rfl:=so (show za[10]? =some wu from rfl) ho
  exact absurd (show some (8,false)=(none:Option (Nat × Bool)) from hg) (by simp)
 ·obtain rfl:=so (show za[11]? =some wh from rfl) ho
  exact absurd (show some (8,false)=(none:Option (Nat × Bool)) from hg) (by simp)
 ·obtain rfl:=so (show za[12]? =some y9 from rfl) ho
  exact absurd (show some (8,false)=(none:Option (Nat × Bool)) from hg) (by simp)
 ·obtain rfl:=so (show za[13]? =some y8 from rfl) ho
  exact absurd (show some (8,false)=(none:Option (Nat × Bool)) from hg) (by simp)
 ·obtain rfl:=so (show za[14]? =some y7 from rfl) ho
  exact absurd (show some (3,true)=(none:Option (Nat × Bool)) from hg) (by simp)
 ·exact absurd (show false=true from hk) (by simp)
 ·exact absurd (show false=true from hk) (by simp)
 ·exact absurd (show false=true from hk) (by simp)
 ·exact absurd (show false=true from hk) (by simp)
 ·exact absurd (show false=true from hk) (by simp)
 ·exact absurd (show false=true from hk) (by simp)
 ·exact absurd (show false=true from hk) (by simp)
 ·exact absurd (show false=true from hk) (by simp)
 ·exact absurd (show false=true from hk) (by simp)
 ·exact absurd (show false=true from hk) (by simp)
 ·exact absurd (show false=true from hk) (by simp)
 ·exact absurd (show false=true from hk) (by simp)
 ·exact absurd (show false=true from hk) (by simp)
 ·exact absurd (show false=true from hk) (by simp)
 ·exact absurd (show false=true from hk) (by simp)
 ·exact absurd (show false=true from hk) (by simp)
 ·exact absurd (show false=true from hk) (by simp)
 ·obtain rfl:=so (show za[32]? =some ku from rfl) ho
  exact absurd (show some (31,false)=(none:Option (Nat × Bool)) from hg) (by simp)
 ·exact absurd (show false=true from hk) (by simp))
 ·(
 intro i w hk
 by_cases hi:i<34
 ·(
 have:i=0∨i=1∨i=2∨i=3∨i=4∨i=5∨i=6∨i=7∨i=8∨i=9∨i=10∨i=11∨i=12∨i=13∨i=14∨i=15∨i=16∨i=17∨i=18∨i=19∨i=20∨i=21∨i=22∨i=23∨i=24∨i=25∨i=26∨i=27∨i=28∨i=29∨i=30∨i=31∨i=32∨i=33:=by omega
 rcases this with rfl|rfl|rfl|rfl|rfl|rfl|rfl|rfl|rfl|rfl|rfl|rfl|rfl|rfl|rfl|rfl|rfl|rfl|rfl|rfl|rfl|rfl|rfl|rfl|rfl|rfl|rfl|rfl|rfl|rfl|rfl|rfl|rfl|rfl
 ·exact absurd (show false=true from hk) (by simp)
 ·exact absurd (show false=true from hk) (by simp)
 ·exact absurd (show false=true from hk) (by simp)
 ·exact absurd (show false=true from hk) (by simp)
 ·exact (show undef=undef from rfl)
 ·exact (show undef=undef from rfl)
 ·exact (show undef=undef from rfl)
 ·exact (show undef=undef from rfl)
 ·exact (show undef=undef from rfl)
 ·exact (show undef=undef from rfl)
 ·exact (show undef=undef from rfl)
 ·exact (show undef=undef from rfl)
 ·exact (show undef=undef from rfl)
 ·exact (show undef=undef from rfl)
 ·exact (show undef=undef from rfl)
 ·exact absurd (show false=true from hk) (by simp)
 ·exact absurd (show false=true from hk) (by simp)
 ·exact absurd (show false=true from hk) (by simp)
 ·exact absurd (show false=true from hk) (by simp)
 ·exact absurd (show false=true from hk) (by simp)
 ·exact absurd (show false=true from hk) (by simp)
 ·exact absurd (show false=true from hk) (by simp)
 ·exact absurd (show false=true from hk) (by simp)
 ·exact absurd (show false=true from hk) (by simp)
 ·exact absurd (show false=true from hk) (by simp)
 ·exact absurd (show false=true from hk) (by simp)
 ·exact absurd (show false=true from hk) (by simp)
 ·exact absurd (show false=true from hk) (by simp)
 ·exact absurd (show false=true from hk) (by simp)
 ·exact absurd (show false=true from hk) (by simp)
 ·exact absurd (show false=true from hk) (by simp)
 ·exact absurd (show false=true from hk) (by simp)
 ·exact (show undef=undef from rfl)
 ·exact absurd (show false=true from hk) (by simp))
 ·(
 exfalso
 unfold qgv at hk
 split at hk
 ·omega
 ·omega
 ·omega
 ·omega
 ·omega
 ·omega
 ·omega
 ·omega
 ·omega
 ·omega
 ·omega
 ·omega
 ·simp at hk))
 ·(
 intro i o a w K hki ho hH he hdep hk
 have hi:i<34:=(Array.getElem?_eq_some_iff.1 ho).1
 have hD:=jq (ps:=[(1,0),(2,1),(3,2),(4,3),(5,3),(5,4),(6,3),(6,5),(7,3),(7,6),(8,3),(8,6),(8,7),(9,8),(10,8),(10,9),(11,8),(12,8),(12,10),(12,11),(13,8),(13,12),(14,3),(14,8),(14,13),(15,3),(15,14),(16,12),(16,15),(17,16),(18,16),(18,17),(19,16),(19,18),(20,16),(20,19),(21,20),(22,20),(22,21),(23,20),(23,22),(24,16),(24,20),(24,23),(25,16),(25,20),(25,24),(26,25),(27,25),(27,26),(28,25),(28,27),(29,16),(29,25),(29,28),(30,16),(30,29),(31,25),(31,30),(32,31),(33,31),(33,32)]) (by kernel_rfl) ho (fun j=>zus g1 zb f sg li bd j w (a.eval (.tmp (zhn j)))) hdep
 have e1':=(he 1 (fun j hj e=>absurd e.symm (by revert j;decide))).trans e1
 have e6':=(he 6 (fun j hj e=>absurd e.symm (by revert j;decide))).trans e6
 have:i=0∨i=1∨i=2∨i=3∨i=4∨i=5∨i=6∨i=7∨i=8∨i=9∨i=10∨i=11∨i=12∨i=13∨i=14∨i=15∨i=16∨i=17∨i=18∨i=19∨i=20∨i=21∨i=22∨i=23∨i=24∨i=25∨i=26∨i=27∨i=28∨i=29∨i=30∨i=31∨i=32∨i=33:=by omega
 rcases this with rfl|rfl|rfl|rfl|rfl|rfl|rfl|rfl|rfl|rfl|rfl|rfl|rfl|rfl|rfl|rfl|rfl|rfl|rfl|rfl|rfl|rfl|rfl|rfl|rfl|rfl|rfl|rfl|rfl|rfl|rfl|rfl|rfl|rfl
 ·obtain rfl:=so (show za[0]? =some p8 from rfl) ho
  exact al (je a w _ _ _ _ _ _ g1 e1') (hk _ _ (But.refl _ _) rfl)
 ·obtain rfl:=so (show za[1]? =some pz from rfl) ho
  exact al (z8 a w _ _ _ _ _ _ g1 0 _ (hD 0 (by simp)) ((hdr hH).ag c0 (by simp))) (hk _ _ (But.refl _ _) rfl)
 ·obtain rfl:=so (show za[2]? =some pu from rfl) ho
  exact al (jf a w _ _ _ _ _ _ 3 1 false rfl (hD 1 (by simp))) (hk _ _ (But.refl _ _) rfl)
 ·obtain rfl:=so (show za[3]? =some pg from rfl) ho
  exact al (br a w _ _ _ _ _ _ _ (hD 2 (by simp))) (hk _ _ (But.refl _ _) rfl)
 ·exact absurd (show true=false from hki) (by simp)
 ·exact absurd (show true=false from hki) (by simp)
 ·exact absurd (show true=false from hki) (by simp)
 ·exact absurd (show true=false from hki) (by simp)
 ·exact absurd (show true=false from hki) (by simp)
 ·exact absurd (show true=false from hki) (by simp)
 ·exact absurd (show true=false from hki) (by simp)
 ·exact absurd (show true=false from hki) (by simp)
 ·exact absurd (show true=false from hki) (by simp)
 ·exact absurd (show true=false from hki) (by simp)
 ·exact absurd (show true=false from hki) (by simp)
 ·obtain rfl:=so (show za[15]? =some yx from rfl) ho
  exact al (jh a w _ _ _ _ _ _ _ false (undef) _ rfl (hD 3 (by simp)) (hD 14 (by simp))) (hk _ _ (But.refl _ _) rfl)
 ·obtain rfl:=so (show za[16]? =some yw from rfl) ho
  exact al (br a w _ _ _ _ _ _ _ (hD 15 (by simp))) (hk _ _ (But.refl _ _) rfl)
 ·obtain rfl:=so (show za[17]? =some yu from rfl) ho
  exact al (je a w _ _ _ _ _ _ g1 e1') (hk _ _ (But.refl _ _) rfl)
 ·obtain rfl:=so (show za[18]? =some yt from rfl) ho
  exact al (z8 a w _ _ _ _ _ _ g1 0 _ (hD 17 (by simp)) ((hdr hH).ag c0 (by simp))) (hk _ _ (But.refl _ _) rfl)
 ·obtain rfl:=so (show za[19]? =some yo from rfl) ho
  exact al (jf a w _ _ _ _ _ _ 3 2 false rfl (hD 18 (by simp))) (hk _ _ (But.refl _ _) rfl)
 ·obtain rfl:=so (show za[20]? =some yj from rfl) ho
  exact al (br a w _ _ _ _ _ _ _ (hD 19 (by simp))) (hk _ _ (But.refl _ _) rfl)
 ·obtain rfl:=so (show za[21]? =some yh from rfl) ho
  exact al (je a w _ _ _ _ _ _ g1 e1') (hk _ _ (But.refl _ _) rfl)
 ·obtain rfl:=so (show za[22]? =some yg from rfl) ho
  exact al (z8 a w _ _ _ _ _ _ g1 0 _ (hD 21 (by simp)) ((hdr hH).ag c0 (by simp))) (hk _ _ (But.refl _ _) rfl)
 ·obtain rfl:=so (show za[23]? =some yc from rfl) ho
  exact al (jf a w _ _ _ _ _ _ 3 3 true rfl (hD 22 (by simp))) (hk _ _ (But.refl _ _) rfl)
 ·obtain rfl:=so (show za[24]? =some vz from rfl) ho
  exact al (qi a w _ _ _ _ _ _ _ false (.bool true) _ rfl (hD 20 (by simp)) (hD 23 (by simp))) (hk _ _ (But.refl _ _) rfl)
 ·obtain rfl:=so (show za[25]? =some vw from rfl) ho
  exact al (br a w _ _ _ _ _ _ _ (hD 24 (by simp))) (hk _ _ (But.refl _ _) rfl)
 ·obtain rfl:=so (show za[26]? =some vv from rfl) ho
  exact al (zbs a w _ _ _ _ _ _ g1 e1') (hk _ _ (But.refl _ _) rfl)
 ·obtain rfl:=so (show za[27]? =some ve from rfl) ho
  exact al (z8 a w _ _ _ _ _ _ g1 3 _ (hD 26 (by simp)) ((hdr hH).ag c3 (by simp))) (hk _ _ (But.refl _ _) rfl)
 ·obtain rfl:=so (show za[28]? =some kz from rfl) ho
  exact al (zbt a w _ _ _ _ _ _ li 1 true (decide_eq_true hli).symm (hD 27 (by simp))) (hk _ _ (But.refl _ _) rfl)
 ·obtain rfl:=so (show za[29]? =some ky from rfl) ho
  exact al (jh a w _ _ _ _ _ _ _ true (.bool true) _ rfl (hD 25 (by simp)) (hD 28 (by simp))) (hk _ _ (But.refl _ _) rfl)
 ·obtain rfl:=so (show za[30]? =some kw from rfl) ho
  exact al (qi a w _ _ _ _ _ _ _ false (.bool true) _ rfl (hD 16 (by simp)) (hD 29 (by simp))) (hk _ _ (But.refl _ _) rfl)
 ·obtain rfl:=so (show za[31]? =some kv from rfl) ho
  exact al (br a w _ _ _ _ _ _ _ (hD 30 (by simp))) (hk _ _ (But.refl _ _) rfl)
 ·exact absurd (show true=false from hki) (by simp)
 ·obtain rfl:=so (show za[33]? =some kr from rfl) ho
  exact al (qi a w _ _ _ _ _ _ _ true (undef) _ rfl (hD 31 (by simp)) (hD 32 (by simp))) (hk _ _ (But.refl _ _) rfl))
 ·(
 intro a w h
 have ea:=h.puts hT (fun i=>match i with
  | 0=>.pointer (some ⟨g1,0,none⟩)
  | 1=>.int .i64 3
  | 2=>.bool false
  | 3=>.bool false
  | 4=>undef
  | 5=>undef
  | 6=>undef
  | 7=>undef
  | 8=>undef
  | 9=>undef
  | 10=>undef
  | 11=>undef
  | 12=>undef
  | 13=>undef
  | 14=>undef
  | 15=>.bool false
  | 16=>.bool false
  | 17=>.pointer (some ⟨g1,0,none⟩)
  | 18=>.int .i64 3
  | 19=>.bool false
  | 20=>.bool false
  | 21=>.pointer (some ⟨g1,0,none⟩)
  | 22=>.int .i64 3
  | 23=>.bool true
  | 24=>.bool true
  | 25=>.bool true
  | 26=>.pointer (some ⟨g1,3,none⟩)
  | 27=>.int .i64 li
  | 28=>.bool true
  | 29=>.bool true
  | 30=>.bool true
  | 31=>.bool true
  | 32=>undef
  | _=>.bool true) (fun i hi=>by
  have hi':i<34:=hi
  have hc:=h.has i hi rfl
  have:i=0∨i=1∨i=2∨i=3∨i=4∨i=5∨i=6∨i=7∨i=8∨i=9∨i=10∨i=11∨i=12∨i=13∨i=14∨i=15∨i=16∨i=17∨i=18∨i=19∨i=20∨i=21∨i=22∨i=23∨i=24∨i=25∨i=26∨i=27∨i=28∨i=29∨i=30∨i=31∨i=32∨i=33:=by omega
  rcases this with rfl|rfl|rfl|rfl|rfl|rfl|rfl|rfl|rfl|rfl|rfl|rfl|rfl|rfl|rfl|rfl|rfl|rfl|rfl|rfl|rfl|rfl|rfl|rfl|rfl|rfl|rfl|rfl|rfl|rfl|rfl|rfl|rfl|rfl
  all_goals first | exact hc|rfl)
 rw[ea]
 exact hQ w (hdr h.but)))
def zhm (i:Nat):Nat:=match i with
 | 0=>100
 | 1=>101
 | 2=>102
 | 3=>103
 | 4=>104
 | 5=>105
 | 6=>106
 | 7=>107
 | 8=>108
 | 9=>109
 | 10=>110
 | 11=>111
 | 12=>112
 | 13=>113
 | 14=>114
 | 15=>115
 | 16=>116
 | 17=>117
 | 18=>118
 | 19=>119
 | 20=>120
 | 21=>121
 | 22=>122
 | 23=>123
 | 24=>124
 | 25=>125
 | 26=>126
 | 27=>127
 | 28=>128
 | 29=>129
 | 30=>130
 | 31=>131
 | 32=>132
 | _=>133
def zur (g1:Nat) (zb:Nat) (f:Rat) (sg:Int) (li:Int) (bd:Bool) (i:Nat) (_w:World) (v:Value):Prop:=match i with
 | 0=>v=.pointer (some ⟨g1,0,none⟩)
 | 1=>v=.int .i64 3
 | 2=>v=.bool false
 | 3=>v=.bool false
 | 4=>v=undef
 | 5=>v=undef
 | 6=>v=undef
 | 7=>v=undef
 | 8=>v=undef
 | 9=>v=undef
 | 10=>v=undef
 | 11=>v=undef
 | 12=>v=undef
 | 13=>v=undef
 | 14=>v=undef
 | 15=>v=.bool false
 | 16=>v=.bool false
 | 17=>v=.pointer (some ⟨g1,0,none⟩)
 | 18=>v=.int .i64 3
 | 19=>v=.bool false
 | 20=>v=.bool false
 | 21=>v=.pointer (some ⟨g1,0,none⟩)
 | 22=>v=.int .i64 3
 | 23=>v=.bool true
 | 24=>v=.bool true
 | 25=>v=.bool true
 | 26=>v=.pointer (some ⟨g1,3,none⟩)
 | 27=>v=.int .i64 li
 | 28=>v=.bool false
 | 29=>v=.bool false
 | 30=>v=.bool false
 | 31=>v=.bool false
 | 32=>v=.bool bd
 | _=>v=.bool bd
def qgu (i:Nat):Bool:=match i with
 | 4=>true
 | 5=>true
 | 6=>true
 | 7=>true
 | 8=>true
 | 9=>true
 | 10=>true
 | 11=>true
 | 12=>true
 | 13=>true
 | 14=>true
 | _=>false
theorem zwr:∀ i j,i<34→j<34→zhm i=zhm j→i=j:=fun i j hi hj=>(by decide:∀ i,i<34→∀ j,j<34→zhm i=zhm j→i=j) i hi j hj
theorem zkp (id:Nat) (Q:Exit→Act→World→Prop) (base:Act) (W0:World) (g1:Nat) (zb:Nat) (f:Rat) (sg:Int) (li:Int) (bd:Bool) (hs:133<base.tmps.size) (e1:base.eval (.tmp 1)=.pointer (some ⟨g1,0,none⟩)) (e6:base.eval (.tmp 6)=.bool bd)
   (c0:W0.cell? ⟨g1,0,none⟩=some (.int .i64 3)) (c3:W0.cell? ⟨g1,3,none⟩=some (.int .i64 li)) (hli:¬ li<1)
   (hQ:∀ w,But [] W0 w→Q .normal (bi base [(100,.pointer (some ⟨g1,0,none⟩)),(101,.int .i64 3),(102,.bool false),(103,.bool false),(104,undef),(105,undef),(106,undef),(107,undef),(108,undef),(109,undef),(110,undef),(111,undef),(112,undef),(113,undef),(114,undef),(115,.bool false),(116,.bool false),(117,.pointer (some ⟨g1,0,none⟩)),(118,.int .i64 3),(119,.bool false),(120,.bool false),(121,.pointer (some ⟨g1,0,none⟩)),(122,.int .i64 3),(123,.bool true),(124,.bool true),(125,.bool true),(126,.pointer (some ⟨g1,3,none⟩)),(127,.int .i64 li),(128,.bool false),(129,.bool false),(130,.bool false),(131,.bool false),(132,.bool bd),(133,.bool bd)]) w) :
   (Code.region id za true).wp prog Q base W0:=by(
 have hdr:∀ {w},But [] W0.drew w→But [] W0 w:=fun h=>(But.refl _ _).drew.trans' h
 have hT:∀ i,i<34→zhm i<base.tmps.size:=fun i hi=>by
  have h:zhm i≤133:=by revert i;decide
  omega
 have hCb:∀ i w w' v,i<34→zur g1 zb f sg li bd i w v→zur g1 zb f sg li bd i w' v:=fun i w w' v hi h=>by
  have:i=0∨i=1∨i=2∨i=3∨i=4∨i=5∨i=6∨i=7∨i=8∨i=9∨i=10∨i=11∨i=12∨i=13∨i=14∨i=15∨i=16∨i=17∨i=18∨i=19∨i=20∨i=21∨i=22∨i=23∨i=24∨i=25∨i=26∨i=27∨i=28∨i=29∨i=30∨i=31∨i=32∨i=33:=by omega
  rcases this with rfl|rfl|rfl|rfl|rfl|rfl|rfl|rfl|rfl|rfl|rfl|rfl|rfl|rfl|rfl|rfl|rfl|rfl|rfl|rfl|rfl|rfl|rfl|rfl|rfl|rfl|rfl|rfl|rfl|rfl|rfl|rfl|rfl|rfl
  ·exact (show v=.pointer (some ⟨g1,0,none⟩) from h)
  ·exact (show v=.int .i64 3 from h)
  ·exact (show v=.bool false from h)
  ·exact (show v=.bool false from h)
  ·exact (show v=undef from h)
  ·exact (show v=undef from h)
  ·exact (show v=undef from h)
  ·exact (show v=undef from h)
  ·exact (show v=undef from h)
  ·exact (show v=undef from h)
  ·exact (show v=undef from h)
  ·exact (show v=undef from h)
  ·exact (show v=undef from h)
  ·exact (show v=undef from h)
  ·exact (show v=undef from h)
  ·exact (show v=.bool false from h)
  ·exact (show v=.bool false from h)
  ·exact (show v=.pointer (some ⟨g1,0,none⟩) from h)
  ·exact (show v=.int .i64 3 from h)
  ·exact (show v=.bool false from h)
  ·exact (show v=.bool false from h)
  ·exact (show v=.pointer (some ⟨g1,0,none⟩) from h)
  ·exact (show v=.int .i64 3 from h)
  ·exact (show v=.bool true from h)
  ·exact (show v=.bool true from h)
  ·exact (show v=.bool true from h)
  ·exact (show v=.pointer (some ⟨g1,3,none⟩) from h)
  ·exact (show v=.int .i64 li from h)
  ·exact (show v=.bool false from h)
  ·exact (show v=.bool false from h)
  ·exact (show v=.bool false from h)
  ·exact (show v=.bool false from h)
  ·exact (show v=.bool bd from h)
  ·exact (show v=.bool bd from h)
 refine ji (by kernel_rfl) (di (by kernel_rfl)) (zur g1 zb f sg li bd) zhm (by kernel_rfl) qgu ?_ ?_ ?_ zwr hT (fun i w w' v hi h _=>hCb i w w' v hi h) ?_ ?_
 ·(
 intro i o j want ho hg w v hv
 have hi:i<34:=(Array.getElem?_eq_some_iff.1 ho).1
 have:i=0∨i=1∨i=2∨i=3∨i=4∨i=5∨i=6∨i=7∨i=8∨i=9∨i=10∨i=11∨i=12∨i=13∨i=14∨i=15∨i=16∨i=17∨i=18∨i=19∨i=20∨i=21∨i=22∨i=23∨i=24∨i=25∨i=26∨i=27∨i=28∨i=29∨i=30∨i=31∨i=32∨i=33:=by omega
 rcases this with rfl|rfl|rfl|rfl|rfl|rfl|rfl|rfl|rfl|rfl|rfl|rfl|rfl|rfl|rfl|rfl|rfl|rfl|rfl|rfl|rfl|rfl|rfl|rfl|rfl|rfl|rfl|rfl|rfl|rfl|rfl|rfl|rfl|rfl
 ·obtain rfl:=so (show za[0]? =some p8 from rfl) ho
  exact absurd (show (none:Option (Nat × Bool))=some (j,want) from hg) (by simp)
 ·obtain rfl:=so (show za[1]? =some pz from rfl) ho
  exact absurd (show (none:Option (Nat × Bool))=some (j,want) from hg) (by simp)
 ·obtain rfl:=so (show za[2]? =some pu from rfl) ho
  exact absurd (show (none:Option (Nat × Bool))=some (j,want) from hg) (by simp)
 ·obtain rfl:=so (show za[3]? =some pg from rfl) ho
  exact absurd (show (none:Option (Nat × Bool))=some (j,want) from hg) (by simp)
 ·obtain rfl:=so (show za[4]? =some o9 from rfl) ho
  obtain⟨rfl,rfl⟩:=Prod.mk.inj (Option.some.inj (show some (3,true)=some (j,want) from hg))
  exact⟨fun _=>.inr hv,fun h=>absurd (show true=false from h) (by simp)⟩
 ·obtain rfl:=so (show za[5]? =some o8 from rfl) ho
  obtain⟨rfl,rfl⟩:=Prod.mk.inj (Option.some.inj (show some (3,true)=some (j,want) from hg))
  exact⟨fun _=>.inr hv,fun h=>absurd (show true=false from h) (by simp)⟩
 ·obtain rfl:=so (show za[6]? =some o7 from rfl) ho
  obtain⟨rfl,rfl⟩:=Prod.mk.inj (Option.some.inj (show some (3,true)=some (j,want) from hg))
  exact⟨fun _=>.inr hv,fun h=>absurd (show true=false from h) (by simp)⟩
 ·obtain rfl:=so (show za[7]? =some oz from rfl) ho
  obtain⟨rfl,rfl⟩:=Prod.mk.inj (Option.some.inj (show some (3,true)=some (j,want) from hg))
  exact⟨fun _=>.inr hv,fun h=>absurd (show true=false from h) (by simp)⟩
 ·obtain rfl:=so (show za[8]? =some ow from rfl) ho
  obtain⟨rfl,rfl⟩:=Prod.mk.inj (Option.some.inj (show some (3,true)=some (j,want) from hg))
  exact⟨fun _=>.inr hv,fun h=>absurd (show true=false from h) (by simp)⟩
 ·obtain rfl:=so (show za[9]? =some ou from rfl) ho
  obtain⟨rfl,rfl⟩:=Prod.mk.inj (Option.some.inj (show some (8,false)=some (j,want) from hg))
  exact⟨fun _=>.inl hv,fun h=>absurd (show true=false from h) (by simp)⟩
 ·obtain rfl:=so (show za[10]? =some wu from rfl) ho
  obtain⟨rfl,rfl⟩:=Prod.mk.inj (Option.some.inj (show some (8,false)=some (j,want) from hg))
  exact⟨fun _=>.inl hv,fun h=>absurd (show true=false from h) (by simp)⟩
 ·obtain rfl:=so (show za[11]? =some wh from rfl) ho
  obtain⟨rfl,rfl⟩:=Prod.mk.inj (Option.some.inj (show some (8,false)=some (j,want) from hg))
  exact⟨fun _=>.inl hv,fun h=>absurd (show true=false from h) (by simp)⟩
 ·obtain rfl:=so (show za[12]? =some y9 from rfl) ho
  obtain⟨rfl,rfl⟩:=Prod.mk.inj (Option.some.inj (show some (8,false)=some (j,want) from hg))
  exact⟨fun _=>.inl hv,fun h=>absurd (show true=false from h) (by simp)⟩
 ·obtain rfl:=so (show za[13]? =some y8 from rfl) ho
  obtain⟨rfl,rfl⟩:=Prod.mk.inj (Option.some.inj (show some (8,false)=some (j,want) from hg))
  exact⟨fun _=>.inl hv,fun h=>absurd (show true=false from h) (by simp)⟩
 ·obtain rfl:=so (show za[14]? =some y7 from rfl) ho
  obtain⟨rfl,rfl⟩:=Prod.mk.inj (Option.some.inj (show some (3,true)=some (j,want) from hg))
  exact⟨fun _=>.inr hv,fun h=>absurd (show true=false from h) (by simp)⟩
 ·obtain rfl:=so (show za[15]? =some yx from rfl) ho
  exact absurd (show (none:Option (Nat × Bool))=some (j,want) from hg) (by simp)
 ·obtain rfl:=so (show za[16]? =some yw from rfl) ho
  exact absurd (show (none:Option (Nat × Bool))=some (j,want) from hg) (by simp)
 ·obtain rfl:=so (show za[17]? =some yu from rfl) ho
  obtain⟨rfl,rfl⟩:=Prod.mk.inj (Option.some.inj (show some (16,false)=some (j,want) from hg))
  exact⟨fun h=>absurd (show false=true from h) (by simp),fun _=>hv⟩
 ·obtain rfl:=so (show za[18]? =some yt from rfl) ho
  obtain⟨rfl,rfl⟩:=Prod.mk.inj (Option.some.inj (show some (16,false)=some (j,want) from hg))
  exact⟨fun h=>absurd (show false=true from h) (by simp),fun _=>hv⟩
 ·obtain rfl:=so (show za[19]? =some yo from rfl) ho
  obtain⟨rfl,rfl⟩:=Prod.mk.inj (Option.some.inj (show some (16,false)=some (j,want) from hg))
  exact⟨fun h=>absurd (show false=true from h) (by simp),fun _=>hv⟩
 ·obtain rfl:=so (show za[20]? =some yj from rfl) ho
  obtain⟨rfl,rfl⟩:=Prod.mk.inj (Option.some.inj (show some (16,false)=some (j,want) from hg))
  exact⟨fun h=>absurd (show false=true from h) (by simp),fun _=>hv⟩
 ·obtain rfl:=so (show za[21]? =some yh from rfl) ho
  obtain⟨rfl,rfl⟩:=Prod.mk.inj (Option.some.inj (show some (20,false)=some (j,want) from hg))
  exact⟨fun h=>absurd (show false=true from h) (by simp),fun _=>hv⟩
 ·obtain rfl:=so (show za[22]? =some yg from rfl) ho
  obtain⟨rfl,rfl⟩:=Prod.mk.inj (Option.some.inj (show some (20,false)=some (j,want) from hg))
  exact⟨fun h=>absurd (show false=true from h) (by simp),fun _=>hv⟩
 ·obtain rfl:=so (show za[23]? =some yc from rfl) ho
  obtain⟨rfl,rfl⟩:=Prod.mk.inj (Option.some.inj (show some (20,false)=some (j,want) from hg))
  exact⟨fun h=>absurd (show false=true from h) (by simp),fun _=>hv⟩
 ·obtain rfl:=so (show za[24]? =some vz from rfl) ho
  obtain⟨rfl,rfl⟩:=Prod.mk.inj (Option.some.inj (show some (16,false)=some (j,want) from hg))
  exact⟨fun h=>absurd (show false=true from h) (by simp),fun _=>hv⟩
 ·obtain rfl:=so (show za[25]? =some vw from rfl) ho
  obtain⟨rfl,rfl⟩:=Prod.mk.inj (Option.some.inj (show some (16,false)=some (j,want) from hg))
  exact⟨fun h=>absurd (show false=true from h) (by simp),fun _=>hv⟩
 ·obtain rfl:=so (show za[26]? =some vv from rfl) ho
  obtain⟨rfl,rfl⟩:=Prod.mk.inj (Option.some.inj (show some (25,true)=some (j,want) from hg))
  exact⟨fun h=>absurd (show false=true from h) (by simp),fun _=>hv⟩
 ·obtain rfl:=so (show za[27]? =some ve from rfl) ho
  obtain⟨rfl,rfl⟩:=Prod.mk.inj (Option.some.inj (show some (25,true)=some (j,want) from hg))
  exact⟨fun h=>absurd (show false=true from h) (by simp),fun _=>hv⟩
 ·obtain rfl:=so (show za[28]? =some kz from rfl) ho
  obtain⟨rfl,rfl⟩:=Prod.mk.inj (Option.some.inj (show some (25,true)=some (j,want) from hg))
  exact⟨fun h=>absurd (show false=true from h) (by simp),fun _=>hv⟩
 ·obtain rfl:=so (show za[29]? =some ky from rfl) ho
  obtain⟨rfl,rfl⟩:=Prod.mk.inj (Option.some.inj (show some (16,false)=some (j,want) from hg))
  exact⟨fun h=>absurd (show false=true from h) (by simp),fun _=>hv⟩
 ·obtain rfl:=so (show za[30]? =some kw from rfl) ho
  exact absurd (show (none:Option (Nat × Bool))=some (j,want) from hg) (by simp)
 ·obtain rfl:=so (show za[31]? =some kv from rfl) ho
  exact absurd (show (none:Option (Nat × Bool))=some (j,want) from hg) (by simp)
 ·obtain rfl:=so (show za[32]? =some ku from rfl) ho
  obtain⟨rfl,rfl⟩:=Prod.mk.inj (Option.some.inj (show some (31,false)=some (j,want) from hg))
  exact⟨fun h=>absurd (show false=true from h) (by simp),fun _=>hv⟩
 ·obtain rfl:=so (show za[33]? =some kr from rfl) ho
  exact absurd (show (none:Option (Nat × Bool))=some (j,want) from hg) (by simp))
 ·(
 intro i o ho hk hg
 have hi:i<34:=(Array.getElem?_eq_some_iff.1 ho).1
 have:i=0∨i=1∨i=2∨i=3∨i=4∨i=5∨i=6∨i=7∨i=8∨i=9∨i=10∨i=11∨i=12∨i=13∨i=14∨i=15∨i=16∨i=17∨i=18∨i=19∨i=20∨i=21∨i=22∨i=23∨i=24∨i=25∨i=26∨i=27∨i=28∨i=29∨i=30∨i=31∨i=32∨i=33:=by omega
 rcases this with rfl|rfl|rfl|rfl|rfl|rfl|rfl|rfl|rfl|rfl|rfl|rfl|rfl|rfl|rfl|rfl|rfl|rfl|rfl|rfl|rfl|rfl|rfl|rfl|rfl|rfl|rfl|rfl|rfl|rfl|rfl|rfl|rfl|rfl
 ·exact absurd (show false=true from hk) (by simp)
 ·exact absurd (show false=true from hk) (by simp)
 ·exact absurd (show false=true from hk) (by simp)
 ·exact absurd (show false=true from hk) (by simp)
 ·obtain rfl:=so (show za[4]? =some o9 from rfl) ho
  exact absurd (show some (3,true)=(none:Option (Nat × Bool)) from hg) (by simp)
 ·obtain rfl:=so (show za[5]? =some o8 from rfl) ho
  exact absurd (show some (3,true)=(none:Option (Nat × Bool)) from hg) (by simp)
 ·obtain rfl:=so (show za[6]? =some o7 from rfl) ho
  exact absurd (show some (3,true)=(none:Option (Nat × Bool)) from hg) (by simp)
 ·obtain rfl:=so (show za[7]? =some oz from rfl) ho
  exact absurd (show some (3,true)=(none:Option (Nat × Bool)) from hg) (by simp)
 ·obtain rfl:=so (show za[8]? =some ow from rfl) ho
  exact absurd (show some (3,true)=(none:Option (Nat × Bool)) from hg) (by simp)
 ·obtain rfl:=so (show za[9]? =some ou from rfl) ho
  exact absurd (show some (8,false)=(none:Option (Nat × Bool)) from hg) (by simp)
 ·obtain rfl:=so (show za[10]? =some wu from rfl) ho
  exact absurd (show some (8,false)=(none:Option (Nat × Bool)) from hg) (by simp)
 ·obtain rfl:=so (show za[11]? =some wh from rfl) ho
  exact absurd (show some (8,false)=(none:Option (Nat × Bool)) from hg) (by simp)
 ·obtain rfl:=so (show za[12]? =some y9 from rfl) ho
  exact absurd (show some (8,false)=(none:Option (Nat × Bool)) from hg) (by simp)
 ·obtain rfl:=so (show za[13]? =some y8 from rfl) ho
  exact absurd (show some (8,false)=(none:Option (Nat × Bool)) from hg) (by simp)
 ·obtain rfl:=so (show za[14]? =some y7 from rfl) ho
  exact absurd (show some (3,true)=(none:Option (Nat × Bool)) from hg) (by simp)
 ·exact absurd (show false=true from hk) (by simp)
 ·exact absurd (show false=true from hk) (by simp)
 ·exact absurd (show false=true from hk) (by simp)
 ·exact absurd (show false=true from hk) (by simp)
 ·exact absurd (show false=true from hk) (by simp)
 ·exact absurd (show false=true from hk) (by simp)
 ·exact absurd (show false=true from hk) (by simp)
 ·exact absurd (show false=true from hk) (by simp)
 ·exact absurd (show false=true from hk) (by simp)
 ·exact absurd (show false=true from hk) (by simp)
 ·exact absurd (show false=true from hk) (by simp)
 ·exact absurd (show false=true from hk) (by simp)
 ·exact absurd (show false=true from hk) (by simp)
 ·exact absurd (show false=true from hk) (by simp)
 ·exact absurd (show false=true from hk) (by simp)
 ·exact absurd (show false=true from hk) (by simp)
 ·exact absurd (show false=true from hk) (by simp)
 ·exact absurd (show false=true from hk) (by simp)
 ·exact absurd (show false=true from hk) (by simp))
 ·(
 intro i w hk
 by_cases hi:i<34
 ·(
 have:i=0∨i=1∨i=2∨i=3∨i=4∨i=5∨i=6∨i=7∨i=8∨i=9∨i=10∨i=11∨i=12∨i=13∨i=14∨i=15∨i=16∨i=17∨i=18∨i=19∨i=20∨i=21∨i=22∨i=23∨i=24∨i=25∨i=26∨i=27∨i=28∨i=29∨i=30∨i=31∨i=32∨i=33:=by omega
 rcases this with rfl|rfl|rfl|rfl|rfl|rfl|rfl|rfl|rfl|rfl|rfl|rfl|rfl|rfl|rfl|rfl|rfl|rfl|rfl|rfl|rfl|rfl|rfl|rfl|rfl|rfl|rfl|rfl|rfl|rfl|rfl|rfl|rfl|rfl
 ·exact absurd (show false=true from hk) (by simp)
 ·exact absurd (show false=true from hk) (by simp)
 ·exact absurd (show false=true from hk) (by simp)
 ·exact absurd (show false=true from hk) (by simp)
 ·exact (show undef=undef from rfl)
 ·exact (show undef=undef from rfl)
 ·exact (show undef=undef from rfl)
 ·exact (show undef=undef from rfl)
 ·exact (show undef=undef from rfl)
 ·exact (show undef=undef from rfl)
 ·exact (show undef=undef from rfl)
 ·exact (show undef=undef from rfl)
 ·exact (show undef=undef from rfl)
 ·exact (show undef=undef from rfl)
 ·exact (show undef=undef from rfl)
 ·exact absurd (show false=true from hk) (by simp)
 ·exact absurd (show false=true from hk) (by simp)
 ·exact absurd (show false=true from hk) (by simp)
 ·exact absurd (show false=true from hk) (by simp)
 ·exact absurd (show false=true from hk) (by simp)
 ·exact absurd (show false=true from hk) (by simp)
 ·exact absurd (show false=true from hk) (by simp)
 ·exact absurd (show false=true from hk) (by simp)
 ·exact absurd (show false=true from hk) (by simp)
 ·exact absurd (show false=true from hk) (by simp)
 ·exact absurd (show false=true from hk) (by simp)
 ·exact absurd (show false=true from hk) (by simp)
 ·exact absurd (show false=true from hk) (by simp)
 ·exact absurd (show false=true from hk) (by simp)
 ·exact absurd (show false=true from hk) (by simp)
 ·exact absurd (show false=true from hk) (by simp)
 ·exact absurd (show false=true from hk) (by simp)
 ·exact absurd (show false=true from hk) (by simp)
 ·exact absurd (show false=true from hk) (by simp))
 ·(
 exfalso
 unfold qgu at hk
 split at hk
 ·omega
 ·omega
 ·omega
 ·omega
 ·omega
 ·omega
 ·omega
 ·omega
 ·omega
 ·omega
 ·omega
 ·simp at hk))
 ·(
 intro i o a w K hki ho hH he hdep hk
 have hi:i<34:=(Array.getElem?_eq_some_iff.1 ho).1
 have hD:=jq (ps:=[(1,0),(2,1),(3,2),(4,3),(5,3),(5,4),(6,3),(6,5),(7,3),(7,6),(8,3),(8,6),(8,7),(9,8),(10,8),(10,9),(11,8),(12,8),(12,10),(12,11),(13,8),(13,12),(14,3),(14,8),(14,13),(15,3),(15,14),(16,12),(16,15),(17,16),(18,16),(18,17),(19,16),(19,18),(20,16),(20,19),(21,20),(22,20),(22,21),(23,20),(23,22),(24,16),(24,20),(24,23),(25,16),(25,20),(25,24),(26,25),(27,25),(27,26),(28,25),(28,27),(29,16),(29,25),(29,28),(30,16),(30,29),(31,25),(31,30),(32,31),(33,31),(33,32)]) (by kernel_rfl) ho (fun j=>zur g1 zb f sg li bd j w (a.eval (.tmp (zhm j)))) hdep
 have e1':=(he 1 (fun j hj e=>absurd e.symm (by revert j;decide))).trans e1
 have e6':=(he 6 (fun j hj e=>absurd e.symm (by revert j;decide))).trans e6
 have:i=0∨i=1∨i=2∨i=3∨i=4∨i=5∨i=6∨i=7∨i=8∨i=9∨i=10∨i=11∨i=12∨i=13∨i=14∨i=15∨i=16∨i=17∨i=18∨i=19∨i=20∨i=21∨i=22∨i=23∨i=24∨i=25∨i=26∨i=27∨i=28∨i=29∨i=30∨i=31∨i=32∨i=33:=by omega
 rcases this with rfl|rfl|rfl|rfl|rfl|rfl|rfl|rfl|rfl|rfl|rfl|rfl|rfl|rfl|rfl|rfl|rfl|rfl|rfl|rfl|rfl|rfl|rfl|rfl|rfl|rfl|rfl|rfl|rfl|rfl|rfl|rfl|rfl|rfl
 ·obtain rfl:=so (show za[0]? =some p8 from rfl) ho
  exact al (je a w _ _ _ _ _ _ g1 e1') (hk _ _ (But.refl _ _) rfl)
 ·obtain rfl:=so (show za[1]? =some pz from rfl) ho
  exact al (z8 a w _ _ _ _ _ _ g1 0 _ (hD 0 (by simp)) ((hdr hH).ag c0 (by simp))) (hk _ _ (But.refl _ _) rfl)
 ·obtain rfl:=so (show za[2]? =some pu from rfl) ho
  exact al (jf a w _ _ _ _ _ _ 3 1 false rfl (hD 1 (by simp))) (hk _ _ (But.refl _ _) rfl)
 ·obtain rfl:=so (show za[3]? =some pg from rfl) ho
  exact al (br a w _ _ _ _ _ _ _ (hD 2 (by simp))) (hk _ _ (But.refl _ _) rfl)
 ·exact absurd (show true=false from hki) (by simp)
 ·exact absurd (show true=false from hki) (by simp)
 ·exact absurd (show true=false from hki) (by simp)
 ·exact absurd (show true=false from hki) (by simp)
 ·exact absurd (show true=false from hki) (by simp)
 ·exact absurd (show true=false from hki) (by simp)
 ·exact absurd (show true=false from hki) (by simp)
 ·exact absurd (show true=false from hki) (by simp)
 ·exact absurd (show true=false from hki) (by simp)
 ·exact absurd (show true=false from hki) (by simp)
 ·exact absurd (show true=false from hki) (by simp)
 ·obtain rfl:=so (show za[15]? =some yx from rfl) ho
  exact al (jh a w _ _ _ _ _ _ _ false (undef) _ rfl (hD 3 (by simp)) (hD 14 (by simp))) (hk _ _ (But.refl _ _) rfl)
 ·obtain rfl:=so (show za[16]? =some yw from rfl) ho
  exact al (br a w _ _ _ _ _ _ _ (hD 15 (by simp))) (hk _ _ (But.refl _ _) rfl)
 ·obtain rfl:=so (show za[17]? =some yu from rfl) ho
  exact al (je a w _ _ _ _ _ _ g1 e1') (hk _ _ (But.refl _ _) rfl)
 ·obtain rfl:=so (show za[18]? =some yt from rfl) ho
  exact al (z8 a w _ _ _ _ _ _ g1 0 _ (hD 17 (by simp)) ((hdr hH).ag c0 (by simp))) (hk _ _ (But.refl _ _) rfl)
 ·obtain rfl:=so (show za[19]? =some yo from rfl) ho
  exact al (jf a w _ _ _ _ _ _ 3 2 false rfl (hD 18 (by simp))) (hk _ _ (But.refl _ _) rfl)
 ·obtain rfl:=so (show za[20]? =some yj from rfl) ho
  exact al (br a w _ _ _ _ _ _ _ (hD 19 (by simp))) (hk _ _ (But.refl _ _) rfl)
 ·obtain rfl:=so (show za[21]? =some yh from rfl) ho
  exact al (je a w _ _ _ _ _ _ g1 e1') (hk _ _ (But.refl _ _) rfl)
 ·obtain rfl:=so (show za[22]? =some yg from rfl) ho
  exact al (z8 a w _ _ _ _ _ _ g1 0 _ (hD 21 (by simp)) ((hdr hH).ag c0 (by simp))) (hk _ _ (But.refl _ _) rfl)
 ·obtain rfl:=so (show za[23]? =some yc from rfl) ho
  exact al (jf a w _ _ _ _ _ _ 3 3 true rfl (hD 22 (by simp))) (hk _ _ (But.refl _ _) rfl)
 ·obtain rfl:=so (show za[24]? =some vz from rfl) ho
  exact al (qi a w _ _ _ _ _ _ _ false (.bool true) _ rfl (hD 20 (by simp)) (hD 23 (by simp))) (hk _ _ (But.refl _ _) rfl)
 ·obtain rfl:=so (show za[25]? =some vw from rfl) ho
  exact al (br a w _ _ _ _ _ _ _ (hD 24 (by simp))) (hk _ _ (But.refl _ _) rfl)
 ·obtain rfl:=so (show za[26]? =some vv from rfl) ho
  exact al (zbs a w _ _ _ _ _ _ g1 e1') (hk _ _ (But.refl _ _) rfl)
 ·obtain rfl:=so (show za[27]? =some ve from rfl) ho
  exact al (z8 a w _ _ _ _ _ _ g1 3 _ (hD 26 (by simp)) ((hdr hH).ag c3 (by simp))) (hk _ _ (But.refl _ _) rfl)
 ·obtain rfl:=so (show za[28]? =some kz from rfl) ho
  exact al (zbt a w _ _ _ _ _ _ li 1 false (decide_eq_false hli).symm (hD 27 (by simp))) (hk _ _ (But.refl _ _) rfl)
 ·obtain rfl:=so (show za[29]? =some ky from rfl) ho
  exact al (jh a w _ _ _ _ _ _ _ true (.bool false) _ rfl (hD 25 (by simp)) (hD 28 (by simp))) (hk _ _ (But.refl _ _) rfl)
 ·obtain rfl:=so (show za[30]? =some kw from rfl) ho
  exact al (qi a w _ _ _ _ _ _ _ false (.bool false) _ rfl (hD 16 (by simp)) (hD 29 (by simp))) (hk _ _ (But.refl _ _) rfl)
 ·obtain rfl:=so (show za[31]? =some kv from rfl) ho
  exact al (br a w _ _ _ _ _ _ _ (hD 30 (by simp))) (hk _ _ (But.refl _ _) rfl)
 ·obtain rfl:=so (show za[32]? =some ku from rfl) ho
  exact al (br a w _ _ _ _ _ _ _ e6') (hk _ _ (But.refl _ _) rfl)
 ·obtain rfl:=so (show za[33]? =some kr from rfl) ho
  exact al (qi a w _ _ _ _ _ _ _ false (.bool bd) _ rfl (hD 31 (by simp)) (hD 32 (by simp))) (hk _ _ (But.refl _ _) rfl))
 ·(
 intro a w h
 have ea:=h.puts hT (fun i=>match i with
  | 0=>.pointer (some ⟨g1,0,none⟩)
  | 1=>.int .i64 3
  | 2=>.bool false
  | 3=>.bool false
  | 4=>undef
  | 5=>undef
  | 6=>undef
  | 7=>undef
  | 8=>undef
  | 9=>undef
  | 10=>undef
  | 11=>undef
  | 12=>undef
  | 13=>undef
  | 14=>undef
  | 15=>.bool false
  | 16=>.bool false
  | 17=>.pointer (some ⟨g1,0,none⟩)
  | 18=>.int .i64 3
  | 19=>.bool false
  | 20=>.bool false
  | 21=>.pointer (some ⟨g1,0,none⟩)
  | 22=>.int .i64 3
  | 23=>.bool true
  | 24=>.bool true
  | 25=>.bool true
  | 26=>.pointer (some ⟨g1,3,none⟩)
  | 27=>.int .i64 li
  | 28=>.bool false
  | 29=>.bool false
  | 30=>.bool false
  | 31=>.bool false
  | 32=>.bool bd
  | _=>.bool bd) (fun i hi=>by
  have hi':i<34:=hi
  have hc:=h.has i hi rfl
  have:i=0∨i=1∨i=2∨i=3∨i=4∨i=5∨i=6∨i=7∨i=8∨i=9∨i=10∨i=11∨i=12∨i=13∨i=14∨i=15∨i=16∨i=17∨i=18∨i=19∨i=20∨i=21∨i=22∨i=23∨i=24∨i=25∨i=26∨i=27∨i=28∨i=29∨i=30∨i=31∨i=32∨i=33:=by omega
  rcases this with rfl|rfl|rfl|rfl|rfl|rfl|rfl|rfl|rfl|rfl|rfl|rfl|rfl|rfl|rfl|rfl|rfl|rfl|rfl|rfl|rfl|rfl|rfl|rfl|rfl|rfl|rfl|rfl|rfl|rfl|rfl|rfl|rfl|rfl
  all_goals first | exact hc|rfl)
 rw[ea]
 exact hQ w (hdr h.but)))
def zhl (i:Nat):Nat:=match i with
 | 0=>100
 | 1=>101
 | 2=>102
 | 3=>103
 | 4=>104
 | 5=>105
 | 6=>106
 | 7=>107
 | 8=>108
 | 9=>109
 | 10=>110
 | 11=>111
 | 12=>112
 | 13=>113
 | 14=>114
 | 15=>115
 | 16=>116
 | 17=>117
 | 18=>118
 | 19=>119
 | 20=>120
 | 21=>121
 | 22=>122
 | 23=>123
 | 24=>124
 | 25=>125
 | 26=>126
 | 27=>127
 | 28=>128
 | 29=>129
 | 30=>130
 | 31=>131
 | 32=>132
 | _=>133
def zuq (g1:Nat) (zb:Nat) (f:Rat) (sg:Int) (li:Int) (bd:Bool) (i:Nat) (_w:World) (v:Value):Prop:=match i with
 | 0=>v=.pointer (some ⟨g1,0,none⟩)
 | 1=>v=.int .i64 4
 | 2=>v=.bool false
 | 3=>v=.bool false
 | 4=>v=undef
 | 5=>v=undef
 | 6=>v=undef
 | 7=>v=undef
 | 8=>v=undef
 | 9=>v=undef
 | 10=>v=undef
 | 11=>v=undef
 | 12=>v=undef
 | 13=>v=undef
 | 14=>v=undef
 | 15=>v=.bool false
 | 16=>v=.bool false
 | 17=>v=.pointer (some ⟨g1,0,none⟩)
 | 18=>v=.int .i64 4
 | 19=>v=.bool false
 | 20=>v=.bool false
 | 21=>v=.pointer (some ⟨g1,0,none⟩)
 | 22=>v=.int .i64 4
 | 23=>v=.bool false
 | 24=>v=.bool false
 | 25=>v=.bool false
 | 26=>v=undef
 | 27=>v=undef
 | 28=>v=undef
 | 29=>v=.bool false
 | 30=>v=.bool false
 | 31=>v=.bool false
 | 32=>v=.bool bd
 | _=>v=.bool bd
def qgt (i:Nat):Bool:=match i with
 | 4=>true
 | 5=>true
 | 6=>true
 | 7=>true
 | 8=>true
 | 9=>true
 | 10=>true
 | 11=>true
 | 12=>true
 | 13=>true
 | 14=>true
 | 26=>true
 | 27=>true
 | 28=>true
 | _=>false
theorem zwq:∀ i j,i<34→j<34→zhl i=zhl j→i=j:=fun i j hi hj=>(by decide:∀ i,i<34→∀ j,j<34→zhl i=zhl j→i=j) i hi j hj
theorem zdm (id:Nat) (Q:Exit→Act→World→Prop) (base:Act) (W0:World) (g1:Nat) (zb:Nat) (f:Rat) (sg:Int) (li:Int) (bd:Bool) (hs:133<base.tmps.size) (e1:base.eval (.tmp 1)=.pointer (some ⟨g1,0,none⟩)) (e6:base.eval (.tmp 6)=.bool bd)
   (c0:W0.cell? ⟨g1,0,none⟩=some (.int .i64 4))
   (hQ:∀ w,But [] W0 w→Q .normal (bi base [(100,.pointer (some ⟨g1,0,none⟩)),(101,.int .i64 4),(102,.bool false),(103,.bool false),(104,undef),(105,undef),(106,undef),(107,undef),(108,undef),(109,undef),(110,undef),(111,undef),(112,undef),(113,undef),(114,undef),(115,.bool false),(116,.bool false),(117,.pointer (some ⟨g1,0,none⟩)),(118,.int .i64 4),(119,.bool false),(120,.bool false),(121,.pointer (some ⟨g1,0,none⟩)),(122,.int .i64 4),(123,.bool false),(124,.bool false),(125,.bool false),(126,undef),(127,undef),(128,undef),(129,.bool false),(130,.bool false),(131,.bool false),(132,.bool bd),(133,.bool bd)]) w) :
   (Code.region id za true).wp prog Q base W0:=by(
 have hdr:∀ {w},But [] W0.drew w→But [] W0 w:=fun h=>(But.refl _ _).drew.trans' h
 have hT:∀ i,i<34→zhl i<base.tmps.size:=fun i hi=>by
  have h:zhl i≤133:=by revert i;decide
  omega
 have hCb:∀ i w w' v,i<34→zuq g1 zb f sg li bd i w v→zuq g1 zb f sg li bd i w' v:=fun i w w' v hi h=>by
  have:i=0∨i=1∨i=2∨i=3∨i=4∨i=5∨i=6∨i=7∨i=8∨i=9∨i=10∨i=11∨i=12∨i=13∨i=14∨i=15∨i=16∨i=17∨i=18∨i=19∨i=20∨i=21∨i=22∨i=23∨i=24∨i=25∨i=26∨i=27∨i=28∨i=29∨i=30∨i=31∨i=32∨i=33:=by omega
  rcases this with rfl|rfl|rfl|rfl|rfl|rfl|rfl|rfl|rfl|rfl|rfl|rfl|rfl|rfl|rfl|rfl|rfl|rfl|rfl|rfl|rfl|rfl|rfl|rfl|rfl|rfl|rfl|rfl|rfl|rfl|rfl|rfl|rfl|rfl
  ·exact (show v=.pointer (some ⟨g1,0,none⟩) from h)
  ·exact (show v=.int .i64 4 from h)
  ·exact (show v=.bool false from h)
  ·exact (show v=.bool false from h)
  ·exact (show v=undef from h)
  ·exact (show v=undef from h)
  ·exact (show v=undef from h)
  ·exact (show v=undef from h)
  ·exact (show v=undef from h)
  ·exact (show v=undef from h)
  ·exact (show v=undef from h)
  ·exact (show v=undef from h)
  ·exact (show v=undef from h)
  ·exact (show v=undef from h)
  ·exact (show v=undef from h)
  ·exact (show v=.bool false from h)
  ·exact (show v=.bool false from h)
  ·exact (show v=.pointer (some ⟨g1,0,none⟩) from h)
  ·exact (show v=.int .i64 4 from h)
  ·exact (show v=.bool false from h)
  ·exact (show v=.bool false from h)
  ·exact (show v=.pointer (some ⟨g1,0,none⟩) from h)
  ·exact (show v=.int .i64 4 from h)
  ·exact (show v=.bool false from h)
  ·exact (show v=.bool false from h)
  ·exact (show v=.bool false from h)
  ·exact (show v=undef from h)
  ·exact (show v=undef from h)
  ·exact (show v=undef from h)
  ·exact (show v=.bool false from h)
  ·exact (show v=.bool false from h)
  ·exact (show v=.bool false from h)
  ·exact (show v=.bool bd from h)
  ·exact (show v=.bool bd from h)
 refine ji (by kernel_rfl) (di (by kernel_rfl)) (zuq g1 zb f sg li bd) zhl (by kernel_rfl) qgt ?_ ?_ ?_ zwq hT (fun i w w' v hi h _=>hCb i w w' v hi h) ?_ ?_
 ·(
 intro i o j want ho hg w v hv
 have hi:i<34:=(Array.getElem?_eq_some_iff.1 ho).1
 have:i=0∨i=1∨i=2∨i=3∨i=4∨i=5∨i=6∨i=7∨i=8∨i=9∨i=10∨i=11∨i=12∨i=13∨i=14∨i=15∨i=16∨i=17∨i=18∨i=19∨i=20∨i=21∨i=22∨i=23∨i=24∨i=25∨i=26∨i=27∨i=28∨i=29∨i=30∨i=31∨i=32∨i=33:=by omega
 rcases this with rfl|rfl|rfl|rfl|rfl|rfl|rfl|rfl|rfl|rfl|rfl|rfl|rfl|rfl|rfl|rfl|rfl|rfl|rfl|rfl|rfl|rfl|rfl|rfl|rfl|rfl|rfl|rfl|rfl|rfl|rfl|rfl|rfl|rfl
 ·obtain rfl:=so (show za[0]? =some p8 from rfl) ho
  exact absurd (show (none:Option (Nat × Bool))=some (j,want) from hg) (by simp)
 ·obtain rfl:=so (show za[1]? =some pz from rfl) ho
  exact absurd (show (none:Option (Nat × Bool))=some (j,want) from hg) (by simp)
 ·obtain rfl:=so (show za[2]? =some pu from rfl) ho
  exact absurd (show (none:Option (Nat × Bool))=some (j,want) from hg) (by simp)
 ·obtain rfl:=so (show za[3]? =some pg from rfl) ho
  exact absurd (show (none:Option (Nat × Bool))=some (j,want) from hg) (by simp)
 ·obtain rfl:=so (show za[4]? =some o9 from rfl) ho
  obtain⟨rfl,rfl⟩:=Prod.mk.inj (Option.some.inj (show some (3,true)=some (j,want) from hg))
  exact⟨fun _=>.inr hv,fun h=>absurd (show true=false from h) (by simp)⟩
 ·obtain rfl:=so (show za[5]? =some o8 from rfl) ho
  obtain⟨rfl,rfl⟩:=Prod.mk.inj (Option.some.inj (show some (3,true)=some (j,want) from hg))
  exact⟨fun _=>.inr hv,fun h=>absurd (show true=false from h) (by simp)⟩
 ·obtain rfl:=so (show za[6]? =some o7 from rfl) ho
  obtain⟨rfl,rfl⟩:=Prod.mk.inj (Option.some.inj (show some (3,true)=some (j,want) from hg))
  exact⟨fun _=>.inr hv,fun h=>absurd (show true=false from h) (by simp)⟩
 ·obtain rfl:=so (show za[7]? =some oz from rfl) ho
  obtain⟨rfl,rfl⟩:=Prod.mk.inj (Option.some.inj (show some (3,true)=some (j,want) from hg))
  exact⟨fun _=>.inr hv,fun h=>absurd (show true=false from h) (by simp)⟩
 ·obtain rfl:=so (show za[8]? =some ow from rfl) ho
  obtain⟨rfl,rfl⟩:=Prod.mk.inj (Option.some.inj (show some (3,true)=some (j,want) from hg))
  exact⟨fun _=>.inr hv,fun h=>absurd (show true=false from h) (by simp)⟩
 ·obtain rfl:=so (show za[9]? =some ou from rfl) ho
  obtain⟨rfl,rfl⟩:=Prod.mk.inj (Option.some.inj (show some (8,false)=some (j,want) from hg))
  exact⟨fun _=>.inl hv,fun h=>absurd (show true=false from h) (by simp)⟩
 ·obtain rfl:=so (show za[10]? =some wu from rfl) ho
  obtain⟨rfl,rfl⟩:=Prod.mk.inj (Option.some.inj (show some (8,false)=some (j,want) from hg))
  exact⟨fun _=>.inl hv,fun h=>absurd (show true=false from h) (by simp)⟩
 ·obtain rfl:=so (show za[11]? =some wh from rfl) ho
  obtain⟨rfl,rfl⟩:=Prod.mk.inj (Option.some.inj (show some (8,false)=some (j,want) from hg))
  exact⟨fun _=>.inl hv,fun h=>absurd (show true=false from h) (by simp)⟩
 ·obtain rfl:=so (show za[12]? =some y9 from rfl) ho
  obtain⟨rfl,rfl⟩:=Prod.mk.inj (Option.some.inj (show some (8,false)=some (j,want) from hg))
  exact⟨fun _=>.inl hv,fun h=>absurd (show true=false from h) (by simp)⟩
 ·obtain rfl:=so (show za[13]? =some y8 from rfl) ho
  obtain⟨rfl,rfl⟩:=Prod.mk.inj (Option.some.inj (show some (8,false)=some (j,want) from hg))
  exact⟨fun _=>.inl hv,fun h=>absurd (show true=false from h) (by simp)⟩
 ·obtain rfl:=so (show za[14]? =some y7 from rfl) ho
  obtain⟨rfl,rfl⟩:=Prod.mk.inj (Option.some.inj (show some (3,true)=some (j,want) from hg))
  exact⟨fun _=>.inr hv,fun h=>absurd (show true=false from h) (by simp)⟩
 ·obtain rfl:=so (show za[15]? =some yx from rfl) ho
  exact absurd (show (none:Option (Nat × Bool))=some (j,want) from hg) (by simp)
 ·obtain rfl:=so (show za[16]? =some yw from rfl) ho
  exact absurd (show (none:Option (Nat × Bool))=some (j,want) from hg) (by simp)
 ·obtain rfl:=so (show za[17]? =some yu from rfl) ho
  obtain⟨rfl,rfl⟩:=Prod.mk.inj (Option.some.inj (show some (16,false)=some (j,want) from hg))
  exact⟨fun h=>absurd (show false=true from h) (by simp),fun _=>hv⟩
 ·obtain rfl:=so (show za[18]? =some yt from rfl) ho
  obtain⟨rfl,rfl⟩:=Prod.mk.inj (Option.some.inj (show some (16,false)=some (j,want) from hg))
  exact⟨fun h=>absurd (show false=true from h) (by simp),fun _=>hv⟩
 ·obtain rfl:=so (show za[19]? =some yo from rfl) ho
  obtain⟨rfl,rfl⟩:=Prod.mk.inj (Option.some.inj (show some (16,false)=some (j,want) from hg))
  exact⟨fun h=>absurd (show false=true from h) (by simp),fun _=>hv⟩
 ·obtain rfl:=so (show za[20]? =some yj from rfl) ho
  obtain⟨rfl,rfl⟩:=Prod.mk.inj (Option.some.inj (show some (16,false)=some (j,want) from hg))
  exact⟨fun h=>absurd (show false=true from h) (by simp),fun _=>hv⟩
 ·obtain rfl:=so (show za[21]? =some yh from rfl) ho
  obtain⟨rfl,rfl⟩:=Prod.mk.inj (Option.some.inj (show some (20,false)=some (j,want) from hg))
  exact⟨fun h=>absurd (show false=true from h) (by simp),fun _=>hv⟩
 ·obtain rfl:=so (show za[22]? =some yg from rfl) ho
  obtain⟨rfl,rfl⟩:=Prod.mk.inj (Option.some.inj (show some (20,false)=some (j,want) from hg))
  exact⟨fun h=>absurd (show false=true from h) (by simp),fun _=>hv⟩
 ·obtain rfl:=so (show za[23]? =some yc from rfl) ho
  obtain⟨rfl,rfl⟩:=Prod.mk.inj (Option.some.inj (show some (20,false)=some (j,want) from hg))
  exact⟨fun h=>absurd (show false=true from h) (by simp),fun _=>hv⟩
 ·obtain rfl:=so (show za[24]? =some vz from rfl) ho
  obtain⟨rfl,rfl⟩:=Prod.mk.inj (Option.some.inj (show some (16,false)=some (j,want) from hg))
  exact⟨fun h=>absurd (show false=true from h) (by simp),fun _=>hv⟩
 ·obtain rfl:=so (show za[25]? =some vw from rfl) ho
  obtain⟨rfl,rfl⟩:=Prod.mk.inj (Option.some.inj (show some (16,false)=some (j,want) from hg))
  exact⟨fun h=>absurd (show false=true from h) (by simp),fun _=>hv⟩
 ·obtain rfl:=so (show za[26]? =some vv from rfl) ho
  obtain⟨rfl,rfl⟩:=Prod.mk.inj (Option.some.inj (show some (25,true)=some (j,want) from hg))
  exact⟨fun _=>.inr hv,fun h=>absurd (show true=false from h) (by simp)⟩
 ·obtain rfl:=so (show za[27]? =some ve from rfl) ho
  obtain⟨rfl,rfl⟩:=Prod.mk.inj (Option.some.inj (show some (25,true)=some (j,want) from hg))
  exact⟨fun _=>.inr hv,fun h=>absurd (show true=false from h) (by simp)⟩
 ·obtain rfl:=so (show za[28]? =some kz from rfl) ho
  obtain⟨rfl,rfl⟩:=Prod.mk.inj (Option.some.inj (show some (25,true)=some (j,want) from hg))
  exact⟨fun _=>.inr hv,fun h=>absurd (show true=false from h) (by simp)⟩
 ·obtain rfl:=so (show za[29]? =some ky from rfl) ho
  obtain⟨rfl,rfl⟩:=Prod.mk.inj (Option.some.inj (show some (16,false)=some (j,want) from hg))
  exact⟨fun h=>absurd (show false=true from h) (by simp),fun _=>hv⟩
 ·obtain rfl:=so (show za[30]? =some kw from rfl) ho
  exact absurd (show (none:Option (Nat × Bool))=some (j,want) from hg) (by simp)
 ·obtain rfl:=so (show za[31]? =some kv from rfl) ho
  exact absurd (show (none:Option (Nat × Bool))=some (j,want) from hg) (by simp)
 ·obtain rfl:=so (show za[32]? =some ku from rfl) ho
  obtain⟨rfl,rfl⟩:=Prod.mk.inj (Option.some.inj (show some (31,false)=some (j,want) from hg))
  exact⟨fun h=>absurd (show false=true from h) (by simp),fun _=>hv⟩
 ·obtain rfl:=so (show za[33]? =some kr from rfl) ho
  exact absurd (show (none:Option (Nat × Bool))=some (j,want) from hg) (by simp))
 ·(
 intro i o ho hk hg
 have hi:i<34:=(Array.getElem?_eq_some_iff.1 ho).1
 have:i=0∨i=1∨i=2∨i=3∨i=4∨i=5∨i=6∨i=7∨i=8∨i=9∨i=10∨i=11∨i=12∨i=13∨i=14∨i=15∨i=16∨i=17∨i=18∨i=19∨i=20∨i=21∨i=22∨i=23∨i=24∨i=25∨i=26∨i=27∨i=28∨i=29∨i=30∨i=31∨i=32∨i=33:=by omega
 rcases this with rfl|rfl|rfl|rfl|rfl|rfl|rfl|rfl|rfl|rfl|rfl|rfl|rfl|rfl|rfl|rfl|rfl|rfl|rfl|rfl|rfl|rfl|rfl|rfl|rfl|rfl|rfl|rfl|rfl|rfl|rfl|rfl|rfl|rfl
 ·exact absurd (show false=true from hk) (by simp)
 ·exact absurd (show false=true from hk) (by simp)
 ·exact absurd (show false=true from hk) (by simp)
 ·exact absurd (show false=true from hk) (by simp)
 ·obtain rfl:=so (show za[4]? =some o9 from rfl) ho
  exact absurd (show some (3,true)=(none:Option (Nat × Bool)) from hg) (by simp)
 ·obtain rfl:=so (show za[5]? =some o8 from rfl) ho
  exact absurd (show some (3,true)=(none:Option (Nat × Bool)) from hg) (by simp)
 ·obtain rfl:=so (show za[6]? =some o7 from rfl) ho
  exact absurd (show some (3,true)=(none:Option (Nat × Bool)) from hg) (by simp)
 ·obtain rfl:=so (show za[7]? =some oz from rfl) ho
  exact absurd (show some (3,true)=(none:Option (Nat × Bool)) from hg) (by simp)
 ·obtain rfl:=so (show za[8]? =some ow from rfl) ho
  exact absurd (show some (3,true)=(none:Option (Nat × Bool)) from hg) (by simp)
 ·obtain rfl:=so (show za[9]? =some ou from rfl) ho
  exact absurd (show some (8,false)=(none:Option (Nat × Bool)) from hg) (by simp)
 ·obtain rfl:=so (show za[10]? =some wu from rfl) ho
  exact absurd (show some (8,false)=(none:Option (Nat × Bool)) from hg) (by simp)
 ·obtain rfl:=so (show za[11]? =some wh from rfl) ho
  exact absurd (show some (8,false)=(none:Option (Nat × Bool)) from hg) (by simp)
 ·obtain rfl:=so (show za[12]? =some y9 from rfl) ho
  exact absurd (show some (8,false)=(none:Option (Nat × Bool)) from hg) (by simp)
 ·obtain rfl:=so (show za[13]? =some y8 from rfl) ho
  exact absurd (show some (8,false)=(none:Option (Nat × Bool)) from hg) (by simp)
 ·obtain rfl:=so (show za[14]? =some y7 from rfl) ho
  exact absurd (show some (3,true)=(none:Option (Nat × Bool)) from hg) (by simp)
 ·exact absurd (show false=true from hk) (by simp)
 ·exact absurd (show false=true from hk) (by simp)
 ·exact absurd (show false=true from hk) (by simp)
 ·exact absurd (show false=true from hk) (by simp)
 ·exact absurd (show false=true from hk) (by simp)
 ·exact absurd (show false=true from hk) (by simp)
 ·exact absurd (show false=true from hk) (by simp)
 ·exact absurd (show false=true from hk) (by simp)
 ·exact absurd (show false=true from hk) (by simp)
 ·exact absurd (show false=true from hk) (by simp)
 ·exact absurd (show false=true from hk) (by simp)
 ·obtain rfl:=so (show za[26]? =some vv from rfl) ho
  exact absurd (show some (25,true)=(none:Option (Nat × Bool)) from hg) (by simp)
 ·obtain rfl:=so (show za[27]? =some ve from rfl) ho
  exact absurd (show some (25,true)=(none:Option (Nat × Bool)) from hg) (by simp)
 ·obtain rfl:=so (show za[28]? =some kz from rfl) ho
  exact absurd (show some (25,true)=(none:Option (Nat × Bool)) from hg) (by simp)
 ·exact absurd (show false=true from hk) (by simp)
 ·exact absurd (show false=true from hk) (by simp)
 ·exact absurd (show false=true from hk) (by simp)
 ·exact absurd (show false=true from hk) (by simp)
 ·exact absurd (show false=true from hk) (by simp))
 ·(
 intro i w hk
 by_cases hi:i<34
 ·(
 have:i=0∨i=1∨i=2∨i=3∨i=4∨i=5∨i=6∨i=7∨i=8∨i=9∨i=10∨i=11∨i=12∨i=13∨i=14∨i=15∨i=16∨i=17∨i=18∨i=19∨i=20∨i=21∨i=22∨i=23∨i=24∨i=25∨i=26∨i=27∨i=28∨i=29∨i=30∨i=31∨i=32∨i=33:=by omega
 rcases this with rfl|rfl|rfl|rfl|rfl|rfl|rfl|rfl|rfl|rfl|rfl|rfl|rfl|rfl|rfl|rfl|rfl|rfl|rfl|rfl|rfl|rfl|rfl|rfl|rfl|rfl|rfl|rfl|rfl|rfl|rfl|rfl|rfl|rfl
 ·exact absurd (show false=true from hk) (by simp)
 ·exact absurd (show false=true from hk) (by simp)
 ·exact absurd (show false=true from hk) (by simp)
 ·exact absurd (show false=true from hk) (by simp)
 ·exact (show undef=undef from rfl)
 ·exact (show undef=undef from rfl)
 ·exact (show undef=undef from rfl)
 ·exact (show undef=undef from rfl)
 ·exact (show undef=undef from rfl)
 ·exact (show undef=undef from rfl)
 ·exact (show undef=undef from rfl)
 ·exact (show undef=undef from rfl)
 ·exact (show undef=undef from rfl)
 ·exact (show undef=undef from rfl)
 ·exact (show undef=undef from rfl)
 ·exact absurd (show false=true from hk) (by simp)
 ·exact absurd (show false=true from hk) (by simp)
 ·exact absurd (show false=true from hk) (by simp)
 ·exact absurd (show false=true from hk) (by simp)
 ·exact absurd (show false=true from hk) (by simp)
 ·exact absurd (show false=true from hk) (by simp)
 ·exact absurd (show false=true from hk) (by simp)
 ·exact absurd (show false=true from hk) (by simp)
 ·exact absurd (show false=true from hk) (by simp)
 ·exact absurd (show false=true from hk) (by simp)
 ·exact absurd (show false=true from hk) (by simp)
 ·exact (show undef=undef from rfl)
 ·exact (show undef=undef from rfl)
 ·exact (show undef=undef from rfl)
 ·exact absurd (show false=true from hk) (by simp)
 ·exact absurd (show false=true from hk) (by simp)
 ·exact absurd (show false=true from hk) (by simp)
 ·exact absurd (show false=true from hk) (by simp)
 ·exact absurd (show false=true from hk) (by simp))
 ·(
 exfalso
 unfold qgt at hk
 split at hk
 ·omega
 ·omega
 ·omega
 ·omega
 ·omega
 ·omega
 ·omega
 ·omega
 ·omega
 ·omega
 ·omega
 ·omega
 ·omega
 ·omega
 ·simp at hk))
 ·(
 intro i o a w K hki ho hH he hdep hk
 have hi:i<34:=(Array.getElem?_eq_some_iff.1 ho).1
 have hD:=jq (ps:=[(1,0),(2,1),(3,2),(4,3),(5,3),(5,4),(6,3),(6,5),(7,3),(7,6),(8,3),(8,6),(8,7),(9,8),(10,8),(10,9),(11,8),(12,8),(12,10),(12,11),(13,8),(13,12),(14,3),(14,8),(14,13),(15,3),(15,14),(16,12),(16,15),(17,16),(18,16),(18,17),(19,16),(19,18),(20,16),(20,19),(21,20),(22,20),(22,21),(23,20),(23,22),(24,16),(24,20),(24,23),(25,16),(25,20),(25,24),(26,25),(27,25),(27,26),(28,25),(28,27),(29,16),(29,25),(29,28),(30,16),(30,29),(31,25),(31,30),(32,31),(33,31),(33,32)]) (by kernel_rfl) ho (fun j=>zuq g1 zb f sg li bd j w (a.eval (.tmp (zhl j)))) hdep
 have e1':=(he 1 (fun j hj e=>absurd e.symm (by revert j;decide))).trans e1
 have e6':=(he 6 (fun j hj e=>absurd e.symm (by revert j;decide))).trans e6
 have:i=0∨i=1∨i=2∨i=3∨i=4∨i=5∨i=6∨i=7∨i=8∨i=9∨i=10∨i=11∨i=12∨i=13∨i=14∨i=15∨i=16∨i=17∨i=18∨i=19∨i=20∨i=21∨i=22∨i=23∨i=24∨i=25∨i=26∨i=27∨i=28∨i=29∨i=30∨i=31∨i=32∨i=33:=by omega
 rcases this with rfl|rfl|rfl|rfl|rfl|rfl|rfl|rfl|rfl|rfl|rfl|rfl|rfl|rfl|rfl|rfl|rfl|rfl|rfl|rfl|rfl|rfl|rfl|rfl|rfl|rfl|rfl|rfl|rfl|rfl|rfl|rfl|rfl|rfl
 ·obtain rfl:=so (show za[0]? =some p8 from rfl) ho
  exact al (je a w _ _ _ _ _ _ g1 e1') (hk _ _ (But.refl _ _) rfl)
 ·obtain rfl:=so (show za[1]? =some pz from rfl) ho
  exact al (z8 a w _ _ _ _ _ _ g1 0 _ (hD 0 (by simp)) ((hdr hH).ag c0 (by simp))) (hk _ _ (But.refl _ _) rfl)
 ·obtain rfl:=so (show za[2]? =some pu from rfl) ho
  exact al (jf a w _ _ _ _ _ _ 4 1 false rfl (hD 1 (by simp))) (hk _ _ (But.refl _ _) rfl)
 ·obtain rfl:=so (show za[3]? =some pg from rfl) ho
  exact al (br a w _ _ _ _ _ _ _ (hD 2 (by simp))) (hk _ _ (But.refl _ _) rfl)
 ·exact absurd (show true=false from hki) (by simp)
 ·exact absurd (show true=false from hki) (by simp)
 ·exact absurd (show true=false from hki) (by simp)
 ·exact absurd (show true=false from hki) (by simp)
 ·exact absurd (show true=false from hki) (by simp)
 ·exact absurd (show true=false from hki) (by simp)
 ·exact absurd (show true=false from hki) (by simp)
 ·exact absurd (show true=false from hki) (by simp)
 ·exact absurd (show true=false from hki) (by simp)
 ·exact absurd (show true=false from hki) (by simp)
 ·exact absurd (show true=false from hki) (by simp)
 ·obtain rfl:=so (show za[15]? =some yx from rfl) ho
  exact al (jh a w _ _ _ _ _ _ _ false (undef) _ rfl (hD 3 (by simp)) (hD 14 (by simp))) (hk _ _ (But.refl _ _) rfl)
 ·obtain rfl:=so (show za[16]? =some yw from rfl) ho
  exact al (br a w _ _ _ _ _ _ _ (hD 15 (by simp))) (hk _ _ (But.refl _ _) rfl)
 ·obtain rfl:=so (show za[17]? =some yu from rfl) ho
  exact al (je a w _ _ _ _ _ _ g1 e1') (hk _ _ (But.refl _ _) rfl)
 ·obtain rfl:=so (show za[18]? =some yt from rfl) ho
  exact al (z8 a w _ _ _ _ _ _ g1 0 _ (hD 17 (by simp)) ((hdr hH).ag c0 (by simp))) (hk _ _ (But.refl _ _) rfl)
 ·obtain rfl:=so (show za[19]? =some yo from rfl) ho
  exact al (jf a w _ _ _ _ _ _ 4 2 false rfl (hD 18 (by simp))) (hk _ _ (But.refl _ _) rfl)
 ·obtain rfl:=so (show za[20]? =some yj from rfl) ho
  exact al (br a w _ _ _ _ _ _ _ (hD 19 (by simp))) (hk _ _ (But.refl _ _) rfl)
 ·obtain rfl:=so (show za[21]? =some yh from rfl) ho
  exact al (je a w _ _ _ _ _ _ g1 e1') (hk _ _ (But.refl _ _) rfl)
 ·obtain rfl:=so (show za[22]? =some yg from rfl) ho
  exact al (z8 a w _ _ _ _ _ _ g1 0 _ (hD 21 (by simp)) ((hdr hH).ag c0 (by simp))) (hk _ _ (But.refl _ _) rfl)
 ·obtain rfl:=so (show za[23]? =some yc from rfl) ho
  exact al (jf a w _ _ _ _ _ _ 4 3 false rfl (hD 22 (by simp))) (hk _ _ (But.refl _ _) rfl)
 ·obtain rfl:=so (show za[24]? =some vz from rfl) ho
  exact al (qi a w _ _ _ _ _ _ _ false (.bool false) _ rfl (hD 20 (by simp)) (hD 23 (by simp))) (hk _ _ (But.refl _ _) rfl)
 ·obtain rfl:=so (show za[25]? =some vw from rfl) ho
  exact al (br a w _ _ _ _ _ _ _ (hD 24 (by simp))) (hk _ _ (But.refl _ _) rfl)
 ·exact absurd (show true=false from hki) (by simp)
 ·exact absurd (show true=false from hki) (by simp)
 ·exact absurd (show true=false from hki) (by simp)
 ·obtain rfl:=so (show za[29]? =some ky from rfl) ho
  exact al (jh a w _ _ _ _ _ _ _ false (undef) _ rfl (hD 25 (by simp)) (hD 28 (by simp))) (hk _ _ (But.refl _ _) rfl)
 ·obtain rfl:=so (show za[30]? =some kw from rfl) ho
  exact al (qi a w _ _ _ _ _ _ _ false (.bool false) _ rfl (hD 16 (by simp)) (hD 29 (by simp))) (hk _ _ (But.refl _ _) rfl)
 ·obtain rfl:=so (show za[31]? =some kv from rfl) ho
  exact al (br a w _ _ _ _ _ _ _ (hD 30 (by simp))) (hk _ _ (But.refl _ _) rfl)
 ·obtain rfl:=so (show za[32]? =some ku from rfl) ho
  exact al (br a w _ _ _ _ _ _ _ e6') (hk _ _ (But.refl _ _) rfl)
 ·obtain rfl:=so (show za[33]? =some kr from rfl) ho
  exact al (qi a w _ _ _ _ _ _ _ false (.bool bd) _ rfl (hD 31 (by simp)) (hD 32 (by simp))) (hk _ _ (But.refl _ _) rfl))
 ·(
 intro a w h
 have ea:=h.puts hT (fun i=>match i with
  | 0=>.pointer (some ⟨g1,0,none⟩)
  | 1=>.int .i64 4
  | 2=>.bool false
  | 3=>.bool false
  | 4=>undef
  | 5=>undef
  | 6=>undef
  | 7=>undef
  | 8=>undef
  | 9=>undef
  | 10=>undef
  | 11=>undef
  | 12=>undef
  | 13=>undef
  | 14=>undef
  | 15=>.bool false
  | 16=>.bool false
  | 17=>.pointer (some ⟨g1,0,none⟩)
  | 18=>.int .i64 4
  | 19=>.bool false
  | 20=>.bool false
  | 21=>.pointer (some ⟨g1,0,none⟩)
  | 22=>.int .i64 4
  | 23=>.bool false
  | 24=>.bool false
  | 25=>.bool false
  | 26=>undef
  | 27=>undef
  | 28=>undef
  | 29=>.bool false
  | 30=>.bool false
  | 31=>.bool false
  | 32=>.bool bd
  | _=>.bool bd) (fun i hi=>by
  have hi':i<34:=hi
  have hc:=h.has i hi rfl
  have:i=0∨i=1∨i=2∨i=3∨i=4∨i=5∨i=6∨i=7∨i=8∨i=9∨i=10∨i=11∨i=12∨i=13∨i=14∨i=15∨i=16∨i=17∨i=18∨i=19∨i=20∨i=21∨i=22∨i=23∨i=24∨i=25∨i=26∨i=27∨i=28∨i=29∨i=30∨i=31∨i=32∨i=33:=by omega
  rcases this with rfl|rfl|rfl|rfl|rfl|rfl|rfl|rfl|rfl|rfl|rfl|rfl|rfl|rfl|rfl|rfl|rfl|rfl|rfl|rfl|rfl|rfl|rfl|rfl|rfl|rfl|rfl|rfl|rfl|rfl|rfl|rfl|rfl|rfl
  all_goals first | exact hc|rfl)
 rw[ea]
 exact hQ w (hdr h.but)))
end Go.Proofs.YtjlfllhedceigaaGreatDoor
