/- A line's text, as the reference writes i -/
import Derived.Test.YtjlfllhedceigaaGreatDoorRTWi
namespace Go.Proofs.YtjlfllhedceigaaGreatDoor
open Go.Proofs.Tryz
open Go.RowKit
set_option maxHeartbeats 8000000
set_option maxRecDepth 100000
set_option linter.unusedVariables false
theorem zue (a:Act) (w:World) (d t:Nat) (u:TypeId) (ps:String) (ed:Array Edge) (gd:Option (Nat × Bool)) (b:Nat) (h1:a.eval (.tmp t)=.pointer (some ⟨b,0,none⟩)) :
   (execOp a.eval { dst:=some d,op:=Op.fieldAddr 135 (.tmp t) 2,type:=u,pos:=ps,after:=ed,guard:=gd }).run prog w=.ok (.value (.pointer (some ⟨b,2,none⟩))) w:=by(
 unfold execOp
 simp only[h1]
 go_simp)
theorem zua (a:Act) (w:World) (d t:Nat) (u:TypeId) (ps:String) (ed:Array Edge) (gd:Option (Nat × Bool)) (b:Nat) (h1:a.eval (.tmp t)=.pointer (some ⟨b,0,none⟩)) :
   (execOp a.eval { dst:=some d,op:=Op.fieldAddr 135 (.tmp t) 4,type:=u,pos:=ps,after:=ed,guard:=gd }).run prog w=.ok (.value (.pointer (some ⟨b,4,none⟩))) w:=by(
 unfold execOp
 simp only[h1]
 go_simp)
theorem qez (a:Act) (w:World) (d t:Nat) (u:TypeId) (ps:String) (ed:Array Edge) (gd:Option (Nat × Bool)) (b:Nat) (h1:a.eval (.tmp t)=.pointer (some ⟨b,0,none⟩)) :
   (execOp a.eval { dst:=some d,op:=Op.fieldAddr 135 (.tmp t) 5,type:=u,pos:=ps,after:=ed,guard:=gd }).run prog w=.ok (.value (.pointer (some ⟨b,5,none⟩))) w:=by(
 unfold execOp
 simp only[h1]
 go_simp)
theorem zas (a:Act) (w:World) (d t1 t2:Nat) (u:TypeId) (ps:String) (ed:Array Edge) (gd:Option (Nat × Bool)) (f:FuncId) (x2:Value) (h1:a.eval (.tmp t1)=.func (.func f) #[] #[]) (h2:a.eval (.tmp t2)=x2) (he:∀ args W,(callFunc f args).run prog W=.ok (.enter f args) W) :
   (execOp a.eval { dst:=some d,op:=Op.call { callee:=Callee.value (Operand.tmp t1),args:=#[Operand.tmp t2],argTypes:=#[3] },type:=u,pos:=ps,after:=ed,guard:=gd }).run prog w=.ok (.enter f #[x2]) w:=by(
 have h1':a.tmps[t1]?.getD undef=.func (.func f) #[] #[]:=by rw[← Array.getD_eq_getD_getElem?];exact h1
 have h2':a.tmps[t2]?.getD undef=x2:=by rw[← Array.getD_eq_getD_getElem?];exact h2
 simp[execOp,resolve,Deferred.ofValue,invoke,Act.eval,h1',h2',he,go_sem])
theorem zck (a:Act) (w:World) (d t1 t2:Nat) (u:TypeId) (ps:String) (ed:Array Edge) (gd:Option (Nat × Bool)) (x y:ByteArray) (hsz:x.size+y.size≤9223372036854775807) (h1:a.eval (.tmp t1)=.string x) (h2:a.eval (.tmp t2)=.string y) :
   (execOp a.eval { dst:=some d,op:=Op.binOp BinOp.add 9 (.tmp t1) (.tmp t2) 9,type:=u,pos:=ps,after:=ed,guard:=gd }).run prog w=.ok (.value (.string (x++y))) w:=by(
 unfold execOp
 simp only[h1,h2]
 go_simp)
theorem znr (a:Act) (w:World) (d t:Nat) (u:TypeId) (ps:String) (ed:Array Edge) (gd:Option (Nat × Bool)) (x y:ByteArray) (hsz:x.size+y.size≤9223372036854775807) (h1:a.eval (.tmp t)=.string x) :
   (execOp a.eval { dst:=some d,op:=Op.binOp BinOp.add 9 (.tmp t) (Operand.const (Value.string y)) 9,type:=u,pos:=ps,after:=ed,guard:=gd }).run prog w=.ok (.value (.string (x++y))) w:=by(
 have e:a.eval (.const (.string y))=.string y:=rfl
 unfold execOp
 simp only[h1,e]
 go_simp)
theorem znu (a:Act) (w:World) (d t:Nat) (u:TypeId) (ps:String) (ed:Array Edge) (gd:Option (Nat × Bool)) (x y:ByteArray) (hsz:x.size+y.size≤9223372036854775807) (h1:a.eval (.tmp t)=.string y) :
   (execOp a.eval { dst:=some d,op:=Op.binOp BinOp.add 9 (Operand.const (Value.string x)) (.tmp t) 9,type:=u,pos:=ps,after:=ed,guard:=gd }).run prog w=.ok (.value (.string (x++y))) w:=by(
 have e:a.eval (.const (.string x))=.string x:=rfl
 unfold execOp
 simp only[h1,e]
 go_simp)
def qbs:Oper:=⟨some 40,.move (.tmp 5),9, "treaty.go:160",#[],none⟩
def qbr:Oper:=⟨some 41,.move (.tmp 8),147, "treaty.go:160",#[],none⟩
def qbq:Oper:=⟨some 42,.fieldAddr 135 (.tmp 7) 3,0, "treaty.go:160",#[],none⟩
def qbp:Oper:=⟨some 43,.load 3 (.tmp 42),3, "treaty.go:160",#[⟨2,.data⟩],none⟩
def qbo:Oper:=⟨some 44,.call { callee:=.value (.tmp 41),args:=#[.tmp 43],argTypes:=#[3] },9, "treaty.go:160",#[⟨1,.data⟩,⟨3,.data⟩],none⟩
def qbn:Oper:=⟨some 45,.binOp .add 9 (.const (.string { data:=#[115,117,114,112,108,117,115,32] })) (.tmp 44) 9,9, "treaty.go:160",#[⟨4,.data⟩],none⟩
def qbm:Oper:=⟨some 46,.binOp .add 9 (.tmp 45) (.const (.string { data:=#[32,116,105,109,101,115,32] })) 9,9, "treaty.go:160",#[⟨5,.data⟩],none⟩
def qbl:Oper:=⟨some 47,.move (.tmp 8),147, "treaty.go:160",#[],none⟩
def qbk:Oper:=⟨some 48,.fieldAddr 135 (.tmp 7) 4,0, "treaty.go:160",#[],none⟩
def qbj:Oper:=⟨some 49,.load 3 (.tmp 48),3, "treaty.go:160",#[⟨8,.data⟩],none⟩
def zss:Oper:=⟨some 50,.call { callee:=.value (.tmp 47),args:=#[.tmp 49],argTypes:=#[3] },9, "treaty.go:160",#[⟨7,.data⟩,⟨9,.data⟩,⟨4,.chain⟩],none⟩
def zsr:Oper:=⟨some 51,.binOp .add 9 (.tmp 46) (.tmp 50) 9,9, "treaty.go:160",#[⟨6,.data⟩,⟨10,.data⟩],none⟩
def zsq:Oper:=⟨some 52,.binOp .add 9 (.tmp 40) (.tmp 51) 9,9, "treaty.go:160",#[⟨0,.data⟩,⟨11,.data⟩],none⟩
def zkk:Oper:=⟨some 5,.assign (.tmp 52),9, "treaty.go:160",#[⟨12,.data⟩,⟨10,.chain⟩,⟨0,.phase⟩,⟨1,.phase⟩,⟨2,.phase⟩,⟨3,.phase⟩,⟨4,.phase⟩,⟨5,.phase⟩,⟨6,.phase⟩,⟨7,.phase⟩,⟨8,.phase⟩,⟨9,.phase⟩,⟨10,.phase⟩,⟨11,.phase⟩,⟨12,.phase⟩],none⟩
def jo:Array Oper:=#[qbs,qbr,qbq,qbp,qbo,qbn,qbm,qbl,qbk,qbj,zss,zsr,zsq,zkk]
def zfg (i:Nat):Nat:=match i with
 | 0=>40
 | 1=>41
 | 2=>42
 | 3=>43
 | 4=>44
 | 5=>45
 | 6=>46
 | 7=>47
 | 8=>48
 | 9=>49
 | 10=>50
 | 11=>51
 | 12=>52
 | _=>5
def zup (g7:Nat) (s:ByteArray) (x:Int) (y:Int) (tx:ByteArray) (ty:ByteArray) (i:Nat) (_w:World) (v:Value):Prop:=match i with
 | 0=>v=.string s
 | 1=>v=.func (.func 78) #[] #[]
 | 2=>v=.pointer (some ⟨g7,3,none⟩)
 | 3=>v=.int .i64 x
 | 4=>v=.string tx
 | 5=>v=.string (⟨#[115,117,114,112,108,117,115,32]⟩++tx)
 | 6=>v=.string ((⟨#[115,117,114,112,108,117,115,32]⟩++tx)++⟨#[32,116,105,109,101,115,32]⟩)
 | 7=>v=.func (.func 78) #[] #[]
 | 8=>v=.pointer (some ⟨g7,4,none⟩)
 | 9=>v=.int .i64 y
 | 10=>v=.string ty
 | 11=>v=.string (((⟨#[115,117,114,112,108,117,115,32]⟩++tx)++⟨#[32,116,105,109,101,115,32]⟩)++ty)
 | 12=>v=.string (s++(((⟨#[115,117,114,112,108,117,115,32]⟩++tx)++⟨#[32,116,105,109,101,115,32]⟩)++ty))
 | _=>v=.string (s++(((⟨#[115,117,114,112,108,117,115,32]⟩++tx)++⟨#[32,116,105,109,101,115,32]⟩)++ty))
theorem zwp {g7:Nat} {s:ByteArray} {x:Int} {y:Int} {tx:ByteArray} {ty:ByteArray} {i:Nat} {w w':World} {v:Value} (h:zup g7 s x y tx ty i w v) (hi:i<14) (hb:But [] w w'):zup g7 s x y tx ty i w' v:=by(
 have:i=0∨i=1∨i=2∨i=3∨i=4∨i=5∨i=6∨i=7∨i=8∨i=9∨i=10∨i=11∨i=12∨i=13:=by omega
 rcases this with rfl|rfl|rfl|rfl|rfl|rfl|rfl|rfl|rfl|rfl|rfl|rfl|rfl|rfl
 all_goals first | exact h)
theorem zwo:∀ i j,i<14→j<14→zfg i=zfg j→i=j:=fun i j hi hj=>(by decide:∀ i,i<14→∀ j,j<14→zfg i=zfg j→i=j) i hi j hj
theorem zer (id:Nat) (Q:Exit→Act→World→Prop) (base:Act) (W0:World) (g7:Nat) (s:ByteArray) (x:Int) (y:Int) (tx:ByteArray) (ty:ByteArray) (hs:52<base.tmps.size) (e5:base.eval (.tmp 5)=.string s) (e8:base.eval (.tmp 8)=.func (.func 78) #[] #[]) (e7:base.eval (.tmp 7)=.pointer (some ⟨g7,0,none⟩))
   (z1:((⟨#[115,117,114,112,108,117,115,32]⟩:ByteArray)).size+(tx).size≤9223372036854775807) (z2:((⟨#[115,117,114,112,108,117,115,32]⟩++tx)).size+((⟨#[32,116,105,109,101,115,32]⟩:ByteArray)).size≤9223372036854775807) (z3:(((⟨#[115,117,114,112,108,117,115,32]⟩++tx)++⟨#[32,116,105,109,101,115,32]⟩)).size+(ty).size≤9223372036854775807) (z4:(s).size+((((⟨#[115,117,114,112,108,117,115,32]⟩++tx)++⟨#[32,116,105,109,101,115,32]⟩)++ty)).size≤9223372036854775807) (c1:W0.cell? ⟨g7,3,none⟩=some (.int .i64 x)) (c2:W0.cell? ⟨g7,4,none⟩=some (.int .i64 y)) (HE:∀ args W,(callFunc 78 args).run prog W=.ok (.enter 78 args) W)
   (I1:∀ w,But [] W0 w→Calls prog 78 #[.int .i64 x] w fun e w'=>e=.returned (.string tx)∧But [] w w') (I2:∀ w,But [] W0 w→Calls prog 78 #[.int .i64 y] w fun e w'=>e=.returned (.string ty)∧But [] w w')
   (hQ:∀ w,But [] W0 w→Q .normal (bi base [(40,.string s),(41,.func (.func 78) #[] #[]),(42,.pointer (some ⟨g7,3,none⟩)),(43,.int .i64 x),(44,.string tx),(45,.string (⟨#[115,117,114,112,108,117,115,32]⟩++tx)),(46,.string ((⟨#[115,117,114,112,108,117,115,32]⟩++tx)++⟨#[32,116,105,109,101,115,32]⟩)),(47,.func (.func 78) #[] #[]),(48,.pointer (some ⟨g7,4,none⟩)),(49,.int .i64 y),(50,.string ty),(51,.string (((⟨#[115,117,114,112,108,117,115,32]⟩++tx)++⟨#[32,116,105,109,101,115,32]⟩)++ty)),(52,.string (s++(((⟨#[115,117,114,112,108,117,115,32]⟩++tx)++⟨#[32,116,105,109,101,115,32]⟩)++ty))),(5,.string (s++(((⟨#[115,117,114,112,108,117,115,32]⟩++tx)++⟨#[32,116,105,109,101,115,32]⟩)++ty)))]) w) :
   (Code.region id jo true).wp prog Q base W0:=by(
 have hdr:∀ {w},But [] W0.drew w→But [] W0 w:=fun h=>(But.refl _ _).drew.trans' h
 have hT:∀ i,i<14→zfg i<base.tmps.size:=fun i hi=>by
  have h:zfg i≤52:=by revert i;decide
  omega
 refine zbe (by kernel_rfl) (di (by kernel_rfl)) (zup g7 s x y tx ty) zfg (by kernel_rfl) ?_ zwo hT (fun i w w' v hi h hb=>zwp h hi hb) ?_ ?_
 ·(
 intro i o j want ho hg w v hv
 have hi:i<14:=(Array.getElem?_eq_some_iff.1 ho).1
 have:i=0∨i=1∨i=2∨i=3∨i=4∨i=5∨i=6∨i=7∨i=8∨i=9∨i=10∨i=11∨i=12∨i=13:=by omega
 rcases this with rfl|rfl|rfl|rfl|rfl|rfl|rfl|rfl|rfl|rfl|rfl|rfl|rfl|rfl
 ·obtain rfl:=so (show jo[0]? =some qbs from rfl) ho
  exact absurd (show (none:Option (Nat × Bool))=some (j,want) from hg) (by simp)
 ·obtain rfl:=so (show jo[1]? =some qbr from rfl) ho
  exact absurd (show (none:Option (Nat × Bool))=some (j,want) from hg) (by simp)
 ·obtain rfl:=so (show jo[2]? =some qbq from rfl) ho
  exact absurd (show (none:Option (Nat × Bool))=some (j,want) from hg) (by simp)
 ·obtain rfl:=so (show jo[3]? =some qbp from rfl) ho
  exact absurd (show (none:Option (Nat × Bool))=some (j,want) from hg) (by simp)
 ·obtain rfl:=so (show jo[4]? =some qbo from rfl) ho
  exact absurd (show (none:Option (Nat × Bool))=some (j,want) from hg) (by simp)
 ·obtain rfl:=so (show jo[5]? =some qbn from rfl) ho
  exact absurd (show (none:Option (Nat × Bool))=some (j,want) from hg) (by simp)
 ·obtain rfl:=so (show jo[6]? =some qbm from rfl) ho
  exact absurd (show (none:Option (Nat × Bool))=some (j,want) from hg) (by simp)
 ·obtain rfl:=so (show jo[7]? =some qbl from rfl) ho
  exact absurd (show (none:Option (Nat × Bool))=some (j,want) from hg) (by simp)
 ·obtain rfl:=so (show jo[8]? =some qbk from rfl) ho
  exact absurd (show (none:Option (Nat × Bool))=some (j,want) from hg) (by simp)
 ·obtain rfl:=so (show jo[9]? =some qbj from rfl) ho
  exact absurd (show (none:Option (Nat × Bool))=some (j,want) from hg) (by simp)
 ·obtain rfl:=so (show jo[10]? =some zss from rfl) ho
  exact absurd (show (none:Option (Nat × Bool))=some (j,want) from hg) (by simp)
 ·obtain rfl:=so (show jo[11]? =some zsr from rfl) ho
  exact absurd (show (none:Option (Nat × Bool))=some (j,want) from hg) (by simp)
 ·obtain rfl:=so (show jo[12]? =some zsq from rfl) ho
  exact absurd (show (none:Option (Nat × Bool))=some (j,want) from hg) (by simp)
 ·obtain rfl:=so (show jo[13]? =some zkk from rfl) ho
  exact absurd (show (none:Option (Nat × Bool))=some (j,want) from hg) (by simp))
 ·(
 intro i o a w K ho hH he hdep hk
 have hi:i<14:=(Array.getElem?_eq_some_iff.1 ho).1
 have hD:=jq (ps:=[(3,2),(4,1),(4,3),(5,4),(6,5),(9,8),(10,4),(10,7),(10,9),(11,6),(11,10),(12,0),(12,11),(13,0),(13,1),(13,2),(13,3),(13,4),(13,5),(13,6),(13,7),(13,8),(13,9),(13,10),(13,11),(13,12)]) (by kernel_rfl) ho (fun j=>zup g7 s x y tx ty j w (a.eval (.tmp (zfg j)))) hdep
 have e8':=(he 8 (fun j hj e=>absurd e.symm (by revert j;decide))).trans e8
 have e7':=(he 7 (fun j hj e=>absurd e.symm (by revert j;decide))).trans e7
 have:i=0∨i=1∨i=2∨i=3∨i=4∨i=5∨i=6∨i=7∨i=8∨i=9∨i=10∨i=11∨i=12∨i=13:=by omega
 rcases this with rfl|rfl|rfl|rfl|rfl|rfl|rfl|rfl|rfl|rfl|rfl|rfl|rfl|rfl
 ·(
 obtain rfl:=so (show jo[0]? =some qbs from rfl) ho
 have e5':=(he 5 (fun j hj e=>by
  obtain rfl:j=13:=(by decide:∀ j,j<14→5=zfg j→j=13) j hj e
  exact⟨zkk,rfl,⟨0,.phase⟩,by simp[zkk],rfl,rfl⟩)).trans e5
 exact al (br a w _ _ _ _ _ _ _ e5') (hk _ _ (But.refl _ _) rfl))
 ·obtain rfl:=so (show jo[1]? =some qbr from rfl) ho
  exact al (br a w _ _ _ _ _ _ _ e8') (hk _ _ (But.refl _ _) rfl)
 ·obtain rfl:=so (show jo[2]? =some qbq from rfl) ho
  exact al (zbs a w _ _ _ _ _ _ g7 e7') (hk _ _ (But.refl _ _) rfl)
 ·obtain rfl:=so (show jo[3]? =some qbp from rfl) ho
  exact al (z8 a w _ _ _ _ _ _ g7 3 _ (hD 2 (by simp)) ((hdr hH).ag c1 (by simp))) (hk _ _ (But.refl _ _) rfl)
 ·obtain rfl:=so (show jo[4]? =some qbo from rfl) ho
  exact aw (zas a w _ _ _ _ _ _ _ _ _ (hD 1 (by simp)) (hD 3 (by simp)) HE) (R:=fun w' v=>But [] w w'∧v=_) ((I1 w (hdr hH)).mono fun e w' ⟨he,hb⟩=>⟨_,he,hb,rfl⟩) (fun v w' hv=>hk v w' hv.1 hv.2)
 ·obtain rfl:=so (show jo[5]? =some qbn from rfl) ho
  exact al (znu a w _ _ _ _ _ _ _ _ z1 (hD 4 (by simp))) (hk _ _ (But.refl _ _) rfl)
 ·obtain rfl:=so (show jo[6]? =some qbm from rfl) ho
  exact al (znr a w _ _ _ _ _ _ _ _ z2 (hD 5 (by simp))) (hk _ _ (But.refl _ _) rfl)
 ·obtain rfl:=so (show jo[7]? =some qbl from rfl) ho
  exact al (br a w _ _ _ _ _ _ _ e8') (hk _ _ (But.refl _ _) rfl)
 ·obtain rfl:=so (show jo[8]? =some qbk from rfl) ho
  exact al (zua a w _ _ _ _ _ _ g7 e7') (hk _ _ (But.refl _ _) rfl)
 ·obtain rfl:=so (show jo[9]? =some qbj from rfl) ho
  exact al (z8 a w _ _ _ _ _ _ g7 4 _ (hD 8 (by simp)) ((hdr hH).ag c2 (by simp))) (hk _ _ (But.refl _ _) rfl)
 ·obtain rfl:=so (show jo[10]? =some zss from rfl) ho
  exact aw (zas a w _ _ _ _ _ _ _ _ _ (hD 7 (by simp)) (hD 9 (by simp)) HE) (R:=fun w' v=>But [] w w'∧v=_) ((I2 w (hdr hH)).mono fun e w' ⟨he,hb⟩=>⟨_,he,hb,rfl⟩) (fun v w' hv=>hk v w' hv.1 hv.2)
 ·obtain rfl:=so (show jo[11]? =some zsr from rfl) ho
  exact al (zck a w _ _ _ _ _ _ _ _ _ z3 (hD 6 (by simp)) (hD 10 (by simp))) (hk _ _ (But.refl _ _) rfl)
 ·obtain rfl:=so (show jo[12]? =some zsq from rfl) ho
  exact al (zck a w _ _ _ _ _ _ _ _ _ z4 (hD 0 (by simp)) (hD 11 (by simp))) (hk _ _ (But.refl _ _) rfl)
 ·obtain rfl:=so (show jo[13]? =some zkk from rfl) ho
  exact al (zat a w _ _ _ _ _ _ _ (hD 12 (by simp))) (hk _ _ (But.refl _ _) rfl))
 ·(
 intro a w h
 have ea:=h.puts hT (fun i=>match i with
  | 0=>.string s
  | 1=>.func (.func 78) #[] #[]
  | 2=>.pointer (some ⟨g7,3,none⟩)
  | 3=>.int .i64 x
  | 4=>.string tx
  | 5=>.string (⟨#[115,117,114,112,108,117,115,32]⟩++tx)
  | 6=>.string ((⟨#[115,117,114,112,108,117,115,32]⟩++tx)++⟨#[32,116,105,109,101,115,32]⟩)
  | 7=>.func (.func 78) #[] #[]
  | 8=>.pointer (some ⟨g7,4,none⟩)
  | 9=>.int .i64 y
  | 10=>.string ty
  | 11=>.string (((⟨#[115,117,114,112,108,117,115,32]⟩++tx)++⟨#[32,116,105,109,101,115,32]⟩)++ty)
  | 12=>.string (s++(((⟨#[115,117,114,112,108,117,115,32]⟩++tx)++⟨#[32,116,105,109,101,115,32]⟩)++ty))
  | _=>.string (s++(((⟨#[115,117,114,112,108,117,115,32]⟩++tx)++⟨#[32,116,105,109,101,115,32]⟩)++ty))) (fun i hi=>by
  have hi':i<14:=hi
  have hc:=h.has i hi rfl
  have:i=0∨i=1∨i=2∨i=3∨i=4∨i=5∨i=6∨i=7∨i=8∨i=9∨i=10∨i=11∨i=12∨i=13:=by omega
  rcases this with rfl|rfl|rfl|rfl|rfl|rfl|rfl|rfl|rfl|rfl|rfl|rfl|rfl|rfl
  all_goals first | exact hc|rfl)
 rw[ea]
 exact hQ w (hdr h.but)))
def qbi:Oper:=⟨some 55,.move (.tmp 5),9, "treaty.go:162",#[],none⟩
def qbh:Oper:=⟨some 56,.move (.tmp 8),147, "treaty.go:162",#[],none⟩
def qbg:Oper:=⟨some 57,.fieldAddr 135 (.tmp 7) 2,0, "treaty.go:162",#[],none⟩
def qbf:Oper:=⟨some 58,.load 3 (.tmp 57),3, "treaty.go:162",#[⟨2,.data⟩],none⟩
def qbe:Oper:=⟨some 59,.call { callee:=.value (.tmp 56),args:=#[.tmp 58],argTypes:=#[3] },9, "treaty.go:162",#[⟨1,.data⟩,⟨3,.data⟩],none⟩
def qbd:Oper:=⟨some 60,.binOp .add 9 (.const (.string { data:=#[101,120,99,101,115,115,32] })) (.tmp 59) 9,9, "treaty.go:162",#[⟨4,.data⟩],none⟩
def qbc:Oper:=⟨some 61,.binOp .add 9 (.tmp 60) (.const (.string { data:=#[32,108,105,109,105,116,32] })) 9,9, "treaty.go:162",#[⟨5,.data⟩],none⟩
def qbb:Oper:=⟨some 62,.move (.tmp 8),147, "treaty.go:162",#[],none⟩
def qba:Oper:=⟨some 63,.fieldAddr 135 (.tmp 7) 3,0, "treaty.go:162",#[],none⟩
def qaz:Oper:=⟨some 64,.load 3 (.tmp 63),3, "treaty.go:162",#[⟨8,.data⟩],none⟩
def zsp:Oper:=⟨some 65,.call { callee:=.value (.tmp 62),args:=#[.tmp 64],argTypes:=#[3] },9, "treaty.go:162",#[⟨7,.data⟩,⟨9,.data⟩,⟨4,.chain⟩],none⟩
def zso:Oper:=⟨some 66,.binOp .add 9 (.tmp 61) (.tmp 65) 9,9, "treaty.go:162",#[⟨6,.data⟩,⟨10,.data⟩],none⟩
def zsn:Oper:=⟨some 67,.binOp .add 9 (.tmp 55) (.tmp 66) 9,9, "treaty.go:162",#[⟨0,.data⟩,⟨11,.data⟩],none⟩
def zkj:Oper:=⟨some 5,.assign (.tmp 67),9, "treaty.go:162",#[⟨12,.data⟩,⟨10,.chain⟩,⟨0,.phase⟩,⟨1,.phase⟩,⟨2,.phase⟩,⟨3,.phase⟩,⟨4,.phase⟩,⟨5,.phase⟩,⟨6,.phase⟩,⟨7,.phase⟩,⟨8,.phase⟩,⟨9,.phase⟩,⟨10,.phase⟩,⟨11,.phase⟩,⟨12,.phase⟩],none⟩
def jm:Array Oper:=#[qbi,qbh,qbg,qbf,qbe,qbd,qbc,qbb,qba,qaz,zsp,zso,zsn,zkj]
def zff (i:Nat):Nat:=match i with
 | 0=>55
 | 1=>56
 | 2=>57
 | 3=>58
 | 4=>59
 | 5=>60
 | 6=>61
 | 7=>62
 | 8=>63
 | 9=>64
 | 10=>65
 | 11=>66
 | 12=>67
 | _=>5
def zuo (g7:Nat) (s:ByteArray) (x:Int) (y:Int) (tx:ByteArray) (ty:ByteArray) (i:Nat) (_w:World) (v:Value):Prop:=match i with
 | 0=>v=.string s
 | 1=>v=.func (.func 78) #[] #[]
 | 2=>v=.pointer (some ⟨g7,2,none⟩)
 | 3=>v=.int .i64 x
 | 4=>v=.string tx
 | 5=>v=.string (⟨#[101,120,99,101,115,115,32]⟩++tx)
 | 6=>v=.string ((⟨#[101,120,99,101,115,115,32]⟩++tx)++⟨#[32,108,105,109,105,116,32]⟩)
 | 7=>v=.func (.func 78) #[] #[]
 | 8=>v=.pointer (some ⟨g7,3,none⟩)
 | 9=>v=.int .i64 y
 | 10=>v=.string ty
 | 11=>v=.string (((⟨#[101,120,99,101,115,115,32]⟩++tx)++⟨#[32,108,105,109,105,116,32]⟩)++ty)
 | 12=>v=.string (s++(((⟨#[101,120,99,101,115,115,32]⟩++tx)++⟨#[32,108,105,109,105,116,32]⟩)++ty))
 | _=>v=.string (s++(((⟨#[101,120,99,101,115,115,32]⟩++tx)++⟨#[32,108,105,109,105,116,32]⟩)++ty))
theorem zwn {g7:Nat} {s:ByteArray} {x:Int} {y:Int} {tx:ByteArray} {ty:ByteArray} {i:Nat} {w w':World} {v:Value} (h:zuo g7 s x y tx ty i w v) (hi:i<14) (hb:But [] w w'):zuo g7 s x y tx ty i w' v:=by(
 have:i=0∨i=1∨i=2∨i=3∨i=4∨i=5∨i=6∨i=7∨i=8∨i=9∨i=10∨i=11∨i=12∨i=13:=by omega
 rcases this with rfl|rfl|rfl|rfl|rfl|rfl|rfl|rfl|rfl|rfl|rfl|rfl|rfl|rfl
 all_goals first | exact h)
theorem zwm:∀ i j,i<14→j<14→zff i=zff j→i=j:=fun i j hi hj=>(by decide:∀ i,i<14→∀ j,j<14→zff i=zff j→i=j) i hi j hj
theorem zhb (id:Nat) (Q:Exit→Act→World→Prop) (base:Act) (W0:World) (g7:Nat) (s:ByteArray) (x:Int) (y:Int) (tx:ByteArray) (ty:ByteArray) (hs:67<base.tmps.size) (e5:base.eval (.tmp 5)=.string s) (e8:base.eval (.tmp 8)=.func (.func 78) #[] #[]) (e7:base.eval (.tmp 7)=.pointer (some ⟨g7,0,none⟩))
   (z1:((⟨#[101,120,99,101,115,115,32]⟩:ByteArray)).size+(tx).size≤9223372036854775807) (z2:((⟨#[101,120,99,101,115,115,32]⟩++tx)).size+((⟨#[32,108,105,109,105,116,32]⟩:ByteArray)).size≤9223372036854775807) (z3:(((⟨#[101,120,99,101,115,115,32]⟩++tx)++⟨#[32,108,105,109,105,116,32]⟩)).size+(ty).size≤9223372036854775807) (z4:(s).size+((((⟨#[101,120,99,101,115,115,32]⟩++tx)++⟨#[32,108,105,109,105,116,32]⟩)++ty)).size≤9223372036854775807) (c1:W0.cell? ⟨g7,2,none⟩=some (.int .i64 x)) (c2:W0.cell? ⟨g7,3,none⟩=some (.int .i64 y)) (HE:∀ args W,(callFunc 78 args).run prog W=.ok (.enter 78 args) W)
   (I1:∀ w,But [] W0 w→Calls prog 78 #[.int .i64 x] w fun e w'=>e=.returned (.string tx)∧But [] w w') (I2:∀ w,But [] W0 w→Calls prog 78 #[.int .i64 y] w fun e w'=>e=.returned (.string ty)∧But [] w w')
   (hQ:∀ w,But [] W0 w→Q .normal (bi base [(55,.string s),(56,.func (.func 78) #[] #[]),(57,.pointer (some ⟨g7,2,none⟩)),(58,.int .i64 x),(59,.string tx),(60,.string (⟨#[101,120,99,101,115,115,32]⟩++tx)),(61,.string ((⟨#[101,120,99,101,115,115,32]⟩++tx)++⟨#[32,108,105,109,105,116,32]⟩)),(62,.func (.func 78) #[] #[]),(63,.pointer (some ⟨g7,3,none⟩)),(64,.int .i64 y),(65,.string ty),(66,.string (((⟨#[101,120,99,101,115,115,32]⟩++tx)++⟨#[32,108,105,109,105,116,32]⟩)++ty)),(67,.string (s++(((⟨#[101,120,99,101,115,115,32]⟩++tx)++⟨#[32,108,105,109,105,116,32]⟩)++ty))),(5,.string (s++(((⟨#[101,120,99,101,115,115,32]⟩++tx)++⟨#[32,108,105,109,105,116,32]⟩)++ty)))]) w) :
   (Code.region id jm true).wp prog Q base W0:=by(
 have hdr:∀ {w},But [] W0.drew w→But [] W0 w:=fun h=>(But.refl _ _).drew.trans' h
 have hT:∀ i,i<14→zff i<base.tmps.size:=fun i hi=>by
  have h:zff i≤67:=by revert i;decide
  omega
 refine zbe (by kernel_rfl) (di (by kernel_rfl)) (zuo g7 s x y tx ty) zff (by kernel_rfl) ?_ zwm hT (fun i w w' v hi h hb=>zwn h hi hb) ?_ ?_
 ·(
 intro i o j want ho hg w v hv
 have hi:i<14:=(Array.getElem?_eq_some_iff.1 ho).1
 have:i=0∨i=1∨i=2∨i=3∨i=4∨i=5∨i=6∨i=7∨i=8∨i=9∨i=10∨i=11∨i=12∨i=13:=by omega
 rcases this with rfl|rfl|rfl|rfl|rfl|rfl|rfl|rfl|rfl|rfl|rfl|rfl|rfl|rfl
 ·obtain rfl:=so (show jm[0]? =some qbi from rfl) ho
  exact absurd (show (none:Option (Nat × Bool))=some (j,want) from hg) (by simp)
 ·obtain rfl:=so (show jm[1]? =some qbh from rfl) ho
  exact absurd (show (none:Option (Nat × Bool))=some (j,want) from hg) (by simp)
 ·obtain rfl:=so (show jm[2]? =some qbg from rfl) ho
  exact absurd (show (none:Option (Nat × Bool))=some (j,want) from hg) (by simp)
 ·obtain rfl:=so (show jm[3]? =some qbf from rfl) ho
  exact absurd (show (none:Option (Nat × Bool))=some (j,want) from hg) (by simp)
 ·obtain rfl:=so (show jm[4]? =some qbe from rfl) ho
  exact absurd (show (none:Option (Nat × Bool))=some (j,want) from hg) (by simp)
 ·obtain rfl:=so (show jm[5]? =some qbd from rfl) ho
  exact absurd (show (none:Option (Nat × Bool))=some (j,want) from hg) (by simp)
 ·obtain rfl:=so (show jm[6]? =some qbc from rfl) ho
  exact absurd (show (none:Option (Nat × Bool))=some (j,want) from hg) (by simp)
 ·obtain rfl:=so (show jm[7]? =some qbb from rfl) ho
  exact absurd (show (none:Option (Nat × Bool))=some (j,want) from hg) (by simp)
 ·obtain rfl:=so (show jm[8]? =some qba from rfl) ho
  exact absurd (show (none:Option (Nat × Bool))=some (j,want) from hg) (by simp)
 ·obtain rfl:=so (show jm[9]? =some qaz from rfl) ho
  exact absurd (show (none:Option (Nat × Bool))=some (j,want) from hg) (by simp)
 ·obtain rfl:=so (show jm[10]? =some zsp from rfl) ho
  exact absurd (show (none:Option (Nat × Bool))=some (j,want) from hg) (by simp)
 ·obtain rfl:=so (show jm[11]? =some zso from rfl) ho
  exact absurd (show (none:Option (Nat × Bool))=some (j,want) from hg) (by simp)
 ·obtain rfl:=so (show jm[12]? =some zsn from rfl) ho
  exact absurd (show (none:Option (Nat × Bool))=some (j,want) from hg) (by simp)
 ·obtain rfl:=so (show jm[13]? =some zkj from rfl) ho
  exact absurd (show (none:Option (Nat × Bool))=some (j,want) from hg) (by simp))
 ·(
 intro i o a w K ho hH he hdep hk
 have hi:i<14:=(Array.getElem?_eq_some_iff.1 ho).1
 have hD:=jq (ps:=[(3,2),(4,1),(4,3),(5,4),(6,5),(9,8),(10,4),(10,7),(10,9),(11,6),(11,10),(12,0),(12,11),(13,0),(13,1),(13,2),(13,3),(13,4),(13,5),(13,6),(13,7),(13,8),(13,9),(13,10),(13,11),(13,12)]) (by kernel_rfl) ho (fun j=>zuo g7 s x y tx ty j w (a.eval (.tmp (zff j)))) hdep
 have e8':=(he 8 (fun j hj e=>absurd e.symm (by revert j;decide))).trans e8
 have e7':=(he 7 (fun j hj e=>absurd e.symm (by revert j;decide))).trans e7
 have:i=0∨i=1∨i=2∨i=3∨i=4∨i=5∨i=6∨i=7∨i=8∨i=9∨i=10∨i=11∨i=12∨i=13:=by omega
 rcases this with rfl|rfl|rfl|rfl|rfl|rfl|rfl|rfl|rfl|rfl|rfl|rfl|rfl|rfl
 ·(
 obtain rfl:=so (show jm[0]? =some qbi from rfl) ho
 have e5':=(he 5 (fun j hj e=>by
  obtain rfl:j=13:=(by decide:∀ j,j<14→5=zff j→j=13) j hj e
  exact⟨zkj,rfl,⟨0,.phase⟩,by simp[zkj],rfl,rfl⟩)).trans e5
 exact al (br a w _ _ _ _ _ _ _ e5') (hk _ _ (But.refl _ _) rfl))
 ·obtain rfl:=so (show jm[1]? =some qbh from rfl) ho
  exact al (br a w _ _ _ _ _ _ _ e8') (hk _ _ (But.refl _ _) rfl)
 ·obtain rfl:=so (show jm[2]? =some qbg from rfl) ho
  exact al (zue a w _ _ _ _ _ _ g7 e7') (hk _ _ (But.refl _ _) rfl)
 ·obtain rfl:=so (show jm[3]? =some qbf from rfl) ho
  exact al (z8 a w _ _ _ _ _ _ g7 2 _ (hD 2 (by simp)) ((hdr hH).ag c1 (by simp))) (hk _ _ (But.refl _ _) rfl)
 ·obtain rfl:=so (show jm[4]? =some qbe from rfl) ho
  exact aw (zas a w _ _ _ _ _ _ _ _ _ (hD 1 (by simp)) (hD 3 (by simp)) HE) (R:=fun w' v=>But [] w w'∧v=_) ((I1 w (hdr hH)).mono fun e w' ⟨he,hb⟩=>⟨_,he,hb,rfl⟩) (fun v w' hv=>hk v w' hv.1 hv.2)
 ·obtain rfl:=so (show jm[5]? =some qbd from rfl) ho
  exact al (znu a w _ _ _ _ _ _ _ _ z1 (hD 4 (by simp))) (hk _ _ (But.refl _ _) rfl)
 ·obtain rfl:=so (show jm[6]? =some qbc from rfl) ho
  exact al (znr a w _ _ _ _ _ _ _ _ z2 (hD 5 (by simp))) (hk _ _ (But.refl _ _) rfl)
 ·obtain rfl:=so (show jm[7]? =some qbb from rfl) ho
  exact al (br a w _ _ _ _ _ _ _ e8') (hk _ _ (But.refl _ _) rfl)
 ·obtain rfl:=so (show jm[8]? =some qba from rfl) ho
  exact al (zbs a w _ _ _ _ _ _ g7 e7') (hk _ _ (But.refl _ _) rfl)
 ·obtain rfl:=so (show jm[9]? =some qaz from rfl) ho
  exact al (z8 a w _ _ _ _ _ _ g7 3 _ (hD 8 (by simp)) ((hdr hH).ag c2 (by simp))) (hk _ _ (But.refl _ _) rfl)
 ·obtain rfl:=so (show jm[10]? =some zsp from rfl) ho
  exact aw (zas a w _ _ _ _ _ _ _ _ _ (hD 7 (by simp)) (hD 9 (by simp)) HE) (R:=fun w' v=>But [] w w'∧v=_) ((I2 w (hdr hH)).mono fun e w' ⟨he,hb⟩=>⟨_,he,hb,rfl⟩) (fun v w' hv=>hk v w' hv.1 hv.2)
 ·obtain rfl:=so (show jm[11]? =some zso from rfl) ho
  exact al (zck a w _ _ _ _ _ _ _ _ _ z3 (hD 6 (by simp)) (hD 10 (by simp))) (hk _ _ (But.refl _ _) rfl)
 ·obtain rfl:=so (show jm[12]? =some zsn from rfl) ho
  exact al (zck a w _ _ _ _ _ _ _ _ _ z4 (hD 0 (by simp)) (hD 11 (by simp))) (hk _ _ (But.refl _ _) rfl)
 ·obtain rfl:=so (show jm[13]? =some zkj from rfl) ho
  exact al (zat a w _ _ _ _ _ _ _ (hD 12 (by simp))) (hk _ _ (But.refl _ _) rfl))
 ·(
 intro a w h
 have ea:=h.puts hT (fun i=>match i with
  | 0=>.string s
  | 1=>.func (.func 78) #[] #[]
  | 2=>.pointer (some ⟨g7,2,none⟩)
  | 3=>.int .i64 x
  | 4=>.string tx
  | 5=>.string (⟨#[101,120,99,101,115,115,32]⟩++tx)
  | 6=>.string ((⟨#[101,120,99,101,115,115,32]⟩++tx)++⟨#[32,108,105,109,105,116,32]⟩)
  | 7=>.func (.func 78) #[] #[]
  | 8=>.pointer (some ⟨g7,3,none⟩)
  | 9=>.int .i64 y
  | 10=>.string ty
  | 11=>.string (((⟨#[101,120,99,101,115,115,32]⟩++tx)++⟨#[32,108,105,109,105,116,32]⟩)++ty)
  | 12=>.string (s++(((⟨#[101,120,99,101,115,115,32]⟩++tx)++⟨#[32,108,105,109,105,116,32]⟩)++ty))
  | _=>.string (s++(((⟨#[101,120,99,101,115,115,32]⟩++tx)++⟨#[32,108,105,109,105,116,32]⟩)++ty))) (fun i hi=>by
  have hi':i<14:=hi
  have hc:=h.has i hi rfl
  have:i=0∨i=1∨i=2∨i=3∨i=4∨i=5∨i=6∨i=7∨i=8∨i=9∨i=10∨i=11∨i=12∨i=13:=by omega
  rcases this with rfl|rfl|rfl|rfl|rfl|rfl|rfl|rfl|rfl|rfl|rfl|rfl|rfl|rfl
  all_goals first | exact hc|rfl)
 rw[ea]
 exact hQ w (hdr h.but)))
def qay:Oper:=⟨some 71,.move (.tmp 5),9, "treaty.go:164",#[],none⟩
def qax:Oper:=⟨some 72,.move (.tmp 8),147, "treaty.go:164",#[],none⟩
def qaw:Oper:=⟨some 73,.fieldAddr 135 (.tmp 7) 4,0, "treaty.go:164",#[],none⟩
def qav:Oper:=⟨some 74,.load 3 (.tmp 73),3, "treaty.go:164",#[⟨2,.data⟩],none⟩
def qau:Oper:=⟨some 75,.call { callee:=.value (.tmp 72),args:=#[.tmp 74],argTypes:=#[3] },9, "treaty.go:164",#[⟨1,.data⟩,⟨3,.data⟩],none⟩
def qat:Oper:=⟨some 76,.binOp .add 9 (.const (.string { data:=#[32,97,103,97,105,110,32] })) (.tmp 75) 9,9, "treaty.go:164",#[⟨4,.data⟩],none⟩
def qas:Oper:=⟨some 77,.binOp .add 9 (.tmp 76) (.const (.string { data:=#[32,97,116,32] })) 9,9, "treaty.go:164",#[⟨5,.data⟩],none⟩
def qar:Oper:=⟨some 78,.move (.tmp 8),147, "treaty.go:164",#[],none⟩
def qaq:Oper:=⟨some 79,.fieldAddr 135 (.tmp 7) 5,0, "treaty.go:164",#[],none⟩
def qap:Oper:=⟨some 80,.load 3 (.tmp 79),3, "treaty.go:164",#[⟨8,.data⟩],none⟩
def zsm:Oper:=⟨some 81,.call { callee:=.value (.tmp 78),args:=#[.tmp 80],argTypes:=#[3] },9, "treaty.go:164",#[⟨7,.data⟩,⟨9,.data⟩,⟨4,.chain⟩],none⟩
def zsl:Oper:=⟨some 82,.binOp .add 9 (.tmp 77) (.tmp 81) 9,9, "treaty.go:164",#[⟨6,.data⟩,⟨10,.data⟩],none⟩
def zsk:Oper:=⟨some 83,.binOp .add 9 (.tmp 71) (.tmp 82) 9,9, "treaty.go:164",#[⟨0,.data⟩,⟨11,.data⟩],none⟩
def zki:Oper:=⟨some 5,.assign (.tmp 83),9, "treaty.go:164",#[⟨12,.data⟩,⟨10,.chain⟩,⟨0,.phase⟩,⟨1,.phase⟩,⟨2,.phase⟩,⟨3,.phase⟩,⟨4,.phase⟩,⟨5,.phase⟩,⟨6,.phase⟩,⟨7,.phase⟩,⟨8,.phase⟩,⟨9,.phase⟩,⟨10,.phase⟩,⟨11,.phase⟩,⟨12,.phase⟩],none⟩
def jl:Array Oper:=#[qay,qax,qaw,qav,qau,qat,qas,qar,qaq,qap,zsm,zsl,zsk,zki]
def zfe (i:Nat):Nat:=match i with
 | 0=>71
 | 1=>72
 | 2=>73
 | 3=>74
 | 4=>75
 | 5=>76
 | 6=>77
 | 7=>78
 | 8=>79
 | 9=>80
 | 10=>81
 | 11=>82
 | 12=>83
 | _=>5
def zun (g7:Nat) (s:ByteArray) (x:Int) (y:Int) (tx:ByteArray) (ty:ByteArray) (i:Nat) (_w:World) (v:Value):Prop:=match i with
 | 0=>v=.string s
 | 1=>v=.func (.func 78) #[] #[]
 | 2=>v=.pointer (some ⟨g7,4,none⟩)
 | 3=>v=.int .i64 x
 | 4=>v=.string tx
 | 5=>v=.string (⟨#[32,97,103,97,105,110,32]⟩++tx)
 | 6=>v=.string ((⟨#[32,97,103,97,105,110,32]⟩++tx)++⟨#[32,97,116,32]⟩)
 | 7=>v=.func (.func 78) #[] #[]
 | 8=>v=.pointer (some ⟨g7,5,none⟩)
 | 9=>v=.int .i64 y
 | 10=>v=.string ty
 | 11=>v=.string (((⟨#[32,97,103,97,105,110,32]⟩++tx)++⟨#[32,97,116,32]⟩)++ty)
 | 12=>v=.string (s++(((⟨#[32,97,103,97,105,110,32]⟩++tx)++⟨#[32,97,116,32]⟩)++ty))
 | _=>v=.string (s++(((⟨#[32,97,103,97,105,110,32]⟩++tx)++⟨#[32,97,116,32]⟩)++ty))
theorem zwl {g7:Nat} {s:ByteArray} {x:Int} {y:Int} {tx:ByteArray} {ty:ByteArray} {i:Nat} {w w':World} {v:Value} (h:zun g7 s x y tx ty i w v) (hi:i<14) (hb:But [] w w'):zun g7 s x y tx ty i w' v:=by(
 have:i=0∨i=1∨i=2∨i=3∨i=4∨i=5∨i=6∨i=7∨i=8∨i=9∨i=10∨i=11∨i=12∨i=13:=by omega
 rcases this with rfl|rfl|rfl|rfl|rfl|rfl|rfl|rfl|rfl|rfl|rfl|rfl|rfl|rfl
 all_goals first | exact h)
theorem zwk:∀ i j,i<14→j<14→zfe i=zfe j→i=j:=fun i j hi hj=>(by decide:∀ i,i<14→∀ j,j<14→zfe i=zfe j→i=j) i hi j hj
theorem zro (id:Nat) (Q:Exit→Act→World→Prop) (base:Act) (W0:World) (g7:Nat) (s:ByteArray) (x:Int) (y:Int) (tx:ByteArray) (ty:ByteArray) (hs:83<base.tmps.size) (e5:base.eval (.tmp 5)=.string s) (e8:base.eval (.tmp 8)=.func (.func 78) #[] #[]) (e7:base.eval (.tmp 7)=.pointer (some ⟨g7,0,none⟩))
   (z1:((⟨#[32,97,103,97,105,110,32]⟩:ByteArray)).size+(tx).size≤9223372036854775807) (z2:((⟨#[32,97,103,97,105,110,32]⟩++tx)).size+((⟨#[32,97,116,32]⟩:ByteArray)).size≤9223372036854775807) (z3:(((⟨#[32,97,103,97,105,110,32]⟩++tx)++⟨#[32,97,116,32]⟩)).size+(ty).size≤9223372036854775807) (z4:(s).size+((((⟨#[32,97,103,97,105,110,32]⟩++tx)++⟨#[32,97,116,32]⟩)++ty)).size≤9223372036854775807) (c1:W0.cell? ⟨g7,4,none⟩=some (.int .i64 x)) (c2:W0.cell? ⟨g7,5,none⟩=some (.int .i64 y)) (HE:∀ args W,(callFunc 78 args).run prog W=.ok (.enter 78 args) W)
   (I1:∀ w,But [] W0 w→Calls prog 78 #[.int .i64 x] w fun e w'=>e=.returned (.string tx)∧But [] w w') (I2:∀ w,But [] W0 w→Calls prog 78 #[.int .i64 y] w fun e w'=>e=.returned (.string ty)∧But [] w w')
   (hQ:∀ w,But [] W0 w→Q .normal (bi base [(71,.string s),(72,.func (.func 78) #[] #[]),(73,.pointer (some ⟨g7,4,none⟩)),(74,.int .i64 x),(75,.string tx),(76,.string (⟨#[32,97,103,97,105,110,32]⟩++tx)),(77,.string ((⟨#[32,97,103,97,105,110,32]⟩++tx)++⟨#[32,97,116,32]⟩)),(78,.func (.func 78) #[] #[]),(79,.pointer (some ⟨g7,5,none⟩)),(80,.int .i64 y),(81,.string ty),(82,.string (((⟨#[32,97,103,97,105,110,32]⟩++tx)++⟨#[32,97,116,32]⟩)++ty)),(83,.string (s++(((⟨#[32,97,103,97,105,110,32]⟩++tx)++⟨#[32,97,116,32]⟩)++ty))),(5,.string (s++(((⟨#[32,97,103,97,105,110,32]⟩++tx)++⟨#[32,97,116,32]⟩)++ty)))]) w) :
   (Code.region id jl true).wp prog Q base W0:=by(
 have hdr:∀ {w},But [] W0.drew w→But [] W0 w:=fun h=>(But.refl _ _).drew.trans' h
 have hT:∀ i,i<14→zfe i<base.tmps.size:=fun i hi=>by
  have h:zfe i≤83:=by revert i;decide
  omega
 refine zbe (by kernel_rfl) (di (by kernel_rfl)) (zun g7 s x y tx ty) zfe (by kernel_rfl) ?_ zwk hT (fun i w w' v hi h hb=>zwl h hi hb) ?_ ?_
 ·(
 intro i o j want ho hg w v hv
 have hi:i<14:=(Array.getElem?_eq_some_iff.1 ho).1
 have:i=0∨i=1∨i=2∨i=3∨i=4∨i=5∨i=6∨i=7∨i=8∨i=9∨i=10∨i=11∨i=12∨i=13:=by omega
 rcases this with rfl|rfl|rfl|rfl|rfl|rfl|rfl|rfl|rfl|rfl|rfl|rfl|rfl|rfl
 ·obtain rfl:=so (show jl[0]? =some qay from rfl) ho
  exact absurd (show (none:Option (Nat × Bool))=some (j,want) from hg) (by simp)
 ·obtain rfl:=so (show jl[1]? =some qax from rfl) ho
  exact absurd (show (none:Option (Nat × Bool))=some (j,want) from hg) (by simp)
 ·obtain rfl:=so (show jl[2]? =some qaw from rfl) ho
  exact absurd (show (none:Option (Nat × Bool))=some (j,want) from hg) (by simp)
 ·obtain rfl:=so (show jl[3]? =some qav from rfl) ho
  exact absurd (show (none:Option (Nat × Bool))=some (j,want) from hg) (by simp)
 ·obtain rfl:=so (show jl[4]? =some qau from rfl) ho
  exact absurd (show (none:Option (Nat × Bool))=some (j,want) from hg) (by simp)
 ·obtain rfl:=so (show jl[5]? =some qat from rfl) ho
  exact absurd (show (none:Option (Nat × Bool))=some (j,want) from hg) (by simp)
 ·obtain rfl:=so (show jl[6]? =some qas from rfl) ho
  exact absurd (show (none:Option (Nat × Bool))=some (j,want) from hg) (by simp)
 ·obtain rfl:=so (show jl[7]? =some qar from rfl) ho
  exact absurd (show (none:Option (Nat × Bool))=some (j,want) from hg) (by simp)
 ·obtain rfl:=so (show jl[8]? =some qaq from rfl) ho
  exact absurd (show (none:Option (Nat × Bool))=some (j,want) from hg) (by simp)
 ·obtain rfl:=so (show jl[9]? =some qap from rfl) ho
  exact absurd (show (none:Option (Nat × Bool))=some (j,want) from hg) (by simp)
 ·obtain rfl:=so (show jl[10]? =some zsm from rfl) ho
  exact absurd (show (none:Option (Nat × Bool))=some (j,want) from hg) (by simp)
 ·obtain rfl:=so (show jl[11]? =some zsl from rfl) ho
  exact absurd (show (none:Option (Nat × Bool))=some (j,want) from hg) (by simp)
 ·obtain rfl:=so (show jl[12]? =some zsk from rfl) ho
  exact absurd (show (none:Option (Nat × Bool))=some (j,want) from hg) (by simp)
 ·obtain rfl:=so (show jl[13]? =some zki from rfl) ho
  exact absurd (show (none:Option (Nat × Bool))=some (j,want) from hg) (by simp))
 ·(
 intro i o a w K ho hH he hdep hk
 have hi:i<14:=(Array.getElem?_eq_some_iff.1 ho).1
 have hD:=jq (ps:=[(3,2),(4,1),(4,3),(5,4),(6,5),(9,8),(10,4),(10,7),(10,9),(11,6),(11,10),(12,0),(12,11),(13,0),(13,1),(13,2),(13,3),(13,4),(13,5),(13,6),(13,7),(13,8),(13,9),(13,10),(13,11),(13,12)]) (by kernel_rfl) ho (fun j=>zun g7 s x y tx ty j w (a.eval (.tmp (zfe j)))) hdep
 have e8':=(he 8 (fun j hj e=>absurd e.symm (by revert j;decide))).trans e8
 have e7':=(he 7 (fun j hj e=>absurd e.symm (by revert j;decide))).trans e7
 have:i=0∨i=1∨i=2∨i=3∨i=4∨i=5∨i=6∨i=7∨i=8∨i=9∨i=10∨i=11∨i=12∨i=13:=by omega
 rcases this with rfl|rfl|rfl|rfl|rfl|rfl|rfl|rfl|rfl|rfl|rfl|rfl|rfl|rfl
 ·(
 obtain rfl:=so (show jl[0]? =some qay from rfl) ho
 have e5':=(he 5 (fun j hj e=>by
  obtain rfl:j=13:=(by decide:∀ j,j<14→5=zfe j→j=13) j hj e
  exact⟨zki,rfl,⟨0,.phase⟩,by simp[zki],rfl,rfl⟩)).trans e5
 exact al (br a w _ _ _ _ _ _ _ e5') (hk _ _ (But.refl _ _) rfl))
 ·obtain rfl:=so (show jl[1]? =some qax from rfl) ho
  exact al (br a w _ _ _ _ _ _ _ e8') (hk _ _ (But.refl _ _) rfl)
 ·obtain rfl:=so (show jl[2]? =some qaw from rfl) ho
  exact al (zua a w _ _ _ _ _ _ g7 e7') (hk _ _ (But.refl _ _) rfl)
 ·obtain rfl:=so (show jl[3]? =some qav from rfl) ho
  exact al (z8 a w _ _ _ _ _ _ g7 4 _ (hD 2 (by simp)) ((hdr hH).ag c1 (by simp))) (hk _ _ (But.refl _ _) rfl)
 ·obtain rfl:=so (show jl[4]? =some qau from rfl) ho
  exact aw (zas a w _ _ _ _ _ _ _ _ _ (hD 1 (by simp)) (hD 3 (by simp)) HE) (R:=fun w' v=>But [] w w'∧v=_) ((I1 w (hdr hH)).mono fun e w' ⟨he,hb⟩=>⟨_,he,hb,rfl⟩) (fun v w' hv=>hk v w' hv.1 hv.2)
 ·obtain rfl:=so (show jl[5]? =some qat from rfl) ho
  exact al (znu a w _ _ _ _ _ _ _ _ z1 (hD 4 (by simp))) (hk _ _ (But.refl _ _) rfl)
 ·obtain rfl:=so (show jl[6]? =some qas from rfl) ho
  exact al (znr a w _ _ _ _ _ _ _ _ z2 (hD 5 (by simp))) (hk _ _ (But.refl _ _) rfl)
 ·obtain rfl:=so (show jl[7]? =some qar from rfl) ho
  exact al (br a w _ _ _ _ _ _ _ e8') (hk _ _ (But.refl _ _) rfl)
 ·obtain rfl:=so (show jl[8]? =some qaq from rfl) ho
  exact al (qez a w _ _ _ _ _ _ g7 e7') (hk _ _ (But.refl _ _) rfl)
 ·obtain rfl:=so (show jl[9]? =some qap from rfl) ho
  exact al (z8 a w _ _ _ _ _ _ g7 5 _ (hD 8 (by simp)) ((hdr hH).ag c2 (by simp))) (hk _ _ (But.refl _ _) rfl)
 ·obtain rfl:=so (show jl[10]? =some zsm from rfl) ho
  exact aw (zas a w _ _ _ _ _ _ _ _ _ (hD 7 (by simp)) (hD 9 (by simp)) HE) (R:=fun w' v=>But [] w w'∧v=_) ((I2 w (hdr hH)).mono fun e w' ⟨he,hb⟩=>⟨_,he,hb,rfl⟩) (fun v w' hv=>hk v w' hv.1 hv.2)
 ·obtain rfl:=so (show jl[11]? =some zsl from rfl) ho
  exact al (zck a w _ _ _ _ _ _ _ _ _ z3 (hD 6 (by simp)) (hD 10 (by simp))) (hk _ _ (But.refl _ _) rfl)
 ·obtain rfl:=so (show jl[12]? =some zsk from rfl) ho
  exact al (zck a w _ _ _ _ _ _ _ _ _ z4 (hD 0 (by simp)) (hD 11 (by simp))) (hk _ _ (But.refl _ _) rfl)
 ·obtain rfl:=so (show jl[13]? =some zki from rfl) ho
  exact al (zat a w _ _ _ _ _ _ _ (hD 12 (by simp))) (hk _ _ (But.refl _ _) rfl))
 ·(
 intro a w h
 have ea:=h.puts hT (fun i=>match i with
  | 0=>.string s
  | 1=>.func (.func 78) #[] #[]
  | 2=>.pointer (some ⟨g7,4,none⟩)
  | 3=>.int .i64 x
  | 4=>.string tx
  | 5=>.string (⟨#[32,97,103,97,105,110,32]⟩++tx)
  | 6=>.string ((⟨#[32,97,103,97,105,110,32]⟩++tx)++⟨#[32,97,116,32]⟩)
  | 7=>.func (.func 78) #[] #[]
  | 8=>.pointer (some ⟨g7,5,none⟩)
  | 9=>.int .i64 y
  | 10=>.string ty
  | 11=>.string (((⟨#[32,97,103,97,105,110,32]⟩++tx)++⟨#[32,97,116,32]⟩)++ty)
  | 12=>.string (s++(((⟨#[32,97,103,97,105,110,32]⟩++tx)++⟨#[32,97,116,32]⟩)++ty))
  | _=>.string (s++(((⟨#[32,97,103,97,105,110,32]⟩++tx)++⟨#[32,97,116,32]⟩)++ty))) (fun i hi=>by
  have hi':i<14:=hi
  have hc:=h.has i hi rfl
  have:i=0∨i=1∨i=2∨i=3∨i=4∨i=5∨i=6∨i=7∨i=8∨i=9∨i=10∨i=11∨i=12∨i=13:=by omega
  rcases this with rfl|rfl|rfl|rfl|rfl|rfl|rfl|rfl|rfl|rfl|rfl|rfl|rfl|rfl
  all_goals first | exact hc|rfl)
 rw[ea]
 exact hQ w (hdr h.but)))
def qao:Oper:=⟨some 86,.move (.tmp 5),9, "treaty.go:167",#[],none⟩
def qan:Oper:=⟨some 87,.move (.tmp 8),147, "treaty.go:167",#[],none⟩
def qam:Oper:=⟨some 88,.fieldAddr 135 (.tmp 7) 2,0, "treaty.go:167",#[],none⟩
def qal:Oper:=⟨some 89,.load 3 (.tmp 88),3, "treaty.go:167",#[⟨2,.data⟩],none⟩
def qak:Oper:=⟨some 90,.call { callee:=.value (.tmp 87),args:=#[.tmp 89],argTypes:=#[3] },9, "treaty.go:167",#[⟨1,.data⟩,⟨3,.data⟩],none⟩
def qaj:Oper:=⟨some 91,.binOp .add 9 (.const (.string { data:=#[115,116,111,112,32] })) (.tmp 90) 9,9, "treaty.go:167",#[⟨4,.data⟩],none⟩
def qai:Oper:=⟨some 92,.binOp .add 9 (.tmp 91) (.const (.string { data:=#[32,108,105,109,105,116,32] })) 9,9, "treaty.go:167",#[⟨5,.data⟩],none⟩
def qah:Oper:=⟨some 93,.move (.tmp 8),147, "treaty.go:167",#[],none⟩
def qag:Oper:=⟨some 94,.fieldAddr 135 (.tmp 7) 3,0, "treaty.go:167",#[],none⟩
def qaf:Oper:=⟨some 95,.load 3 (.tmp 94),3, "treaty.go:167",#[⟨8,.data⟩],none⟩
def zsj:Oper:=⟨some 96,.call { callee:=.value (.tmp 93),args:=#[.tmp 95],argTypes:=#[3] },9, "treaty.go:167",#[⟨7,.data⟩,⟨9,.data⟩,⟨4,.chain⟩],none⟩
def zsi:Oper:=⟨some 97,.binOp .add 9 (.tmp 92) (.tmp 96) 9,9, "treaty.go:167",#[⟨6,.data⟩,⟨10,.data⟩],none⟩
def zsh:Oper:=⟨some 98,.binOp .add 9 (.tmp 86) (.tmp 97) 9,9, "treaty.go:167",#[⟨0,.data⟩,⟨11,.data⟩],none⟩
def zkh:Oper:=⟨some 5,.assign (.tmp 98),9, "treaty.go:167",#[⟨12,.data⟩,⟨10,.chain⟩,⟨0,.phase⟩,⟨1,.phase⟩,⟨2,.phase⟩,⟨3,.phase⟩,⟨4,.phase⟩,⟨5,.phase⟩,⟨6,.phase⟩,⟨7,.phase⟩,⟨8,.phase⟩,⟨9,.phase⟩,⟨10,.phase⟩,⟨11,.phase⟩,⟨12,.phase⟩],none⟩
def jk:Array Oper:=#[qao,qan,qam,qal,qak,qaj,qai,qah,qag,qaf,zsj,zsi,zsh,zkh]
def zfd (i:Nat):Nat:=match i with
 | 0=>86
 | 1=>87
 | 2=>88
 | 3=>89
 | 4=>90
 | 5=>91
 | 6=>92
 | 7=>93
 | 8=>94
 | 9=>95
 | 10=>96
 | 11=>97
 | 12=>98
 | _=>5
def zum (g7:Nat) (s:ByteArray) (x:Int) (y:Int) (tx:ByteArray) (ty:ByteArray) (i:Nat) (_w:World) (v:Value):Prop:=match i with
 | 0=>v=.string s
 | 1=>v=.func (.func 78) #[] #[]
 | 2=>v=.pointer (some ⟨g7,2,none⟩)
 | 3=>v=.int .i64 x
 | 4=>v=.string tx
 | 5=>v=.string (⟨#[115,116,111,112,32]⟩++tx)
 | 6=>v=.string ((⟨#[115,116,111,112,32]⟩++tx)++⟨#[32,108,105,109,105,116,32]⟩)
 | 7=>v=.func (.func 78) #[] #[]
 | 8=>v=.pointer (some ⟨g7,3,none⟩)
 | 9=>v=.int .i64 y
 | 10=>v=.string ty
 | 11=>v=.string (((⟨#[115,116,111,112,32]⟩++tx)++⟨#[32,108,105,109,105,116,32]⟩)++ty)
 | 12=>v=.string (s++(((⟨#[115,116,111,112,32]⟩++tx)++⟨#[32,108,105,109,105,116,32]⟩)++ty))
 | _=>v=.string (s++(((⟨#[115,116,111,112,32]⟩++tx)++⟨#[32,108,105,109,105,116,32]⟩)++ty))
theorem zwj {g7:Nat} {s:ByteArray} {x:Int} {y:Int} {tx:ByteArray} {ty:ByteArray} {i:Nat} {w w':World} {v:Value} (h:zum g7 s x y tx ty i w v) (hi:i<14) (hb:But [] w w'):zum g7 s x y tx ty i w' v:=by(
 have:i=0∨i=1∨i=2∨i=3∨i=4∨i=5∨i=6∨i=7∨i=8∨i=9∨i=10∨i=11∨i=12∨i=13:=by omega
 rcases this with rfl|rfl|rfl|rfl|rfl|rfl|rfl|rfl|rfl|rfl|rfl|rfl|rfl|rfl
 all_goals first | exact h)
theorem zwi:∀ i j,i<14→j<14→zfd i=zfd j→i=j:=fun i j hi hj=>(by decide:∀ i,i<14→∀ j,j<14→zfd i=zfd j→i=j) i hi j hj
theorem zml (id:Nat) (Q:Exit→Act→World→Prop) (base:Act) (W0:World) (g7:Nat) (s:ByteArray) (x:Int) (y:Int) (tx:ByteArray) (ty:ByteArray) (hs:98<base.tmps.size) (e5:base.eval (.tmp 5)=.string s) (e8:base.eval (.tmp 8)=.func (.func 78) #[] #[]) (e7:base.eval (.tmp 7)=.pointer (some ⟨g7,0,none⟩))
   (z1:((⟨#[115,116,111,112,32]⟩:ByteArray)).size+(tx).size≤9223372036854775807) (z2:((⟨#[115,116,111,112,32]⟩++tx)).size+((⟨#[32,108,105,109,105,116,32]⟩:ByteArray)).size≤9223372036854775807) (z3:(((⟨#[115,116,111,112,32]⟩++tx)++⟨#[32,108,105,109,105,116,32]⟩)).size+(ty).size≤9223372036854775807) (z4:(s).size+((((⟨#[115,116,111,112,32]⟩++tx)++⟨#[32,108,105,109,105,116,32]⟩)++ty)).size≤9223372036854775807) (c1:W0.cell? ⟨g7,2,none⟩=some (.int .i64 x)) (c2:W0.cell? ⟨g7,3,none⟩=some (.int .i64 y)) (HE:∀ args W,(callFunc 78 args).run prog W=.ok (.enter 78 args) W)
   (I1:∀ w,But [] W0 w→Calls prog 78 #[.int .i64 x] w fun e w'=>e=.returned (.string tx)∧But [] w w') (I2:∀ w,But [] W0 w→Calls prog 78 #[.int .i64 y] w fun e w'=>e=.returned (.string ty)∧But [] w w')
   (hQ:∀ w,But [] W0 w→Q .normal (bi base [(86,.string s),(87,.func (.func 78) #[] #[]),(88,.pointer (some ⟨g7,2,none⟩)),(89,.int .i64 x),(90,.string tx),(91,.string (⟨#[115,116,111,112,32]⟩++tx)),(92,.string ((⟨#[115,116,111,112,32]⟩++tx)++⟨#[32,108,105,109,105,116,32]⟩)),(93,.func (.func 78) #[] #[]),(94,.pointer (some ⟨g7,3,none⟩)),(95,.int .i64 y),(96,.string ty),(97,.string (((⟨#[115,116,111,112,32]⟩++tx)++⟨#[32,108,105,109,105,116,32]⟩)++ty)),(98,.string (s++(((⟨#[115,116,111,112,32]⟩++tx)++⟨#[32,108,105,109,105,116,32]⟩)++ty))),(5,.string (s++(((⟨#[115,116,111,112,32]⟩++tx)++⟨#[32,108,105,109,105,116,32]⟩)++ty)))]) w) :
   (Code.region id jk true).wp prog Q base W0:=by(
 have hdr:∀ {w},But [] W0.drew w→But [] W0 w:=fun h=>(But.refl _ _).drew.trans' h
 have hT:∀ i,i<14→zfd i<base.tmps.size:=fun i hi=>by
  have h:zfd i≤98:=by revert i;decide
  omega
 refine zbe (by kernel_rfl) (di (by kernel_rfl)) (zum g7 s x y tx ty) zfd (by kernel_rfl) ?_ zwi hT (fun i w w' v hi h hb=>zwj h hi hb) ?_ ?_
 ·(
 intro i o j want ho hg w v hv
 have hi:i<14:=(Array.getElem?_eq_some_iff.1 ho).1
 have:i=0∨i=1∨i=2∨i=3∨i=4∨i=5∨i=6∨i=7∨i=8∨i=9∨i=10∨i=11∨i=12∨i=13:=by omega
 rcases this with rfl|rfl|rfl|rfl|rfl|rfl|rfl|rfl|rfl|rfl|rfl|rfl|rfl|rfl
 ·obtain rfl:=so (show jk[0]? =some qao from rfl) ho
  exact absurd (show (none:Option (Nat × Bool))=some (j,want) from hg) (by simp)
 ·obtain rfl:=so (show jk[1]? =some qan from rfl) ho
  exact absurd (show (none:Option (Nat × Bool))=some (j,want) from hg) (by simp)
 ·obtain rfl:=so (show jk[2]? =some qam from rfl) ho
  exact absurd (show (none:Option (Nat × Bool))=some (j,want) from hg) (by simp)
 ·obtain rfl:=so (show jk[3]? =some qal from rfl) ho
  exact absurd (show (none:Option (Nat × Bool))=some (j,want) from hg) (by simp)
 ·obtain rfl:=so (show jk[4]? =some qak from rfl) ho
  exact absurd (show (none:Option (Nat × Bool))=some (j,want) from hg) (by simp)
 ·obtain rfl:=so (show jk[5]? =some qaj from rfl) ho
  exact absurd (show (none:Option (Nat × Bool))=some (j,want) from hg) (by simp)
 ·obtain rfl:=so (show jk[6]? =some qai from rfl) ho
  exact absurd (show (none:Option (Nat × Bool))=some (j,want) from hg) (by simp)
 ·obtain rfl:=so (show jk[7]? =some qah from rfl) ho
  exact absurd (show (none:Option (Nat × Bool))=some (j,want) from hg) (by simp)
 ·obtain rfl:=so (show jk[8]? =some qag from rfl) ho
  exact absurd (show (none:Option (Nat × Bool))=some (j,want) from hg) (by simp)
 ·obtain rfl:=so (show jk[9]? =some qaf from rfl) ho
  exact absurd (show (none:Option (Nat × Bool))=some (j,want) from hg) (by simp)
 ·obtain rfl:=so (show jk[10]? =some zsj from rfl) ho
  exact absurd (show (none:Option (Nat × Bool))=some (j,want) from hg) (by simp)
 ·obtain rfl:=so (show jk[11]? =some zsi from rfl) ho
  exact absurd (show (none:Option (Nat × Bool))=some (j,want) from hg) (by simp)
 ·obtain rfl:=so (show jk[12]? =some zsh from rfl) ho
  exact absurd (show (none:Option (Nat × Bool))=some (j,want) from hg) (by simp)
 ·obtain rfl:=so (show jk[13]? =some zkh from rfl) ho
  exact absurd (show (none:Option (Nat × Bool))=some (j,want) from hg) (by simp))
 ·(
 intro i o a w K ho hH he hdep hk
 have hi:i<14:=(Array.getElem?_eq_some_iff.1 ho).1
 have hD:=jq (ps:=[(3,2),(4,1),(4,3),(5,4),(6,5),(9,8),(10,4),(10,7),(10,9),(11,6),(11,10),(12,0),(12,11),(13,0),(13,1),(13,2),(13,3),(13,4),(13,5),(13,6),(13,7),(13,8),(13,9),(13,10),(13,11),(13,12)]) (by kernel_rfl) ho (fun j=>zum g7 s x y tx ty j w (a.eval (.tmp (zfd j)))) hdep
 have e8':=(he 8 (fun j hj e=>absurd e.symm (by revert j;decide))).trans e8
 have e7':=(he 7 (fun j hj e=>absurd e.symm (by revert j;decide))).trans e7
 have:i=0∨i=1∨i=2∨i=3∨i=4∨i=5∨i=6∨i=7∨i=8∨i=9∨i=10∨i=11∨i=12∨i=13:=by omega
 rcases this with rfl|rfl|rfl|rfl|rfl|rfl|rfl|rfl|rfl|rfl|rfl|rfl|rfl|rfl
 ·(
 obtain rfl:=so (show jk[0]? =some qao from rfl) ho
 have e5':=(he 5 (fun j hj e=>by
  obtain rfl:j=13:=(by decide:∀ j,j<14→5=zfd j→j=13) j hj e
  exact⟨zkh,rfl,⟨0,.phase⟩,by simp[zkh],rfl,rfl⟩)).trans e5
 exact al (br a w _ _ _ _ _ _ _ e5') (hk _ _ (But.refl _ _) rfl))
 ·obtain rfl:=so (show jk[1]? =some qan from rfl) ho
  exact al (br a w _ _ _ _ _ _ _ e8') (hk _ _ (But.refl _ _) rfl)
 ·obtain rfl:=so (show jk[2]? =some qam from rfl) ho
  exact al (zue a w _ _ _ _ _ _ g7 e7') (hk _ _ (But.refl _ _) rfl)
 ·obtain rfl:=so (show jk[3]? =some qal from rfl) ho
  exact al (z8 a w _ _ _ _ _ _ g7 2 _ (hD 2 (by simp)) ((hdr hH).ag c1 (by simp))) (hk _ _ (But.refl _ _) rfl)
 ·obtain rfl:=so (show jk[4]? =some qak from rfl) ho
  exact aw (zas a w _ _ _ _ _ _ _ _ _ (hD 1 (by simp)) (hD 3 (by simp)) HE) (R:=fun w' v=>But [] w w'∧v=_) ((I1 w (hdr hH)).mono fun e w' ⟨he,hb⟩=>⟨_,he,hb,rfl⟩) (fun v w' hv=>hk v w' hv.1 hv.2)
 ·obtain rfl:=so (show jk[5]? =some qaj from rfl) ho
  exact al (znu a w _ _ _ _ _ _ _ _ z1 (hD 4 (by simp))) (hk _ _ (But.refl _ _) rfl)
 ·obtain rfl:=so (show jk[6]? =some qai from rfl) ho
  exact al (znr a w _ _ _ _ _ _ _ _ z2 (hD 5 (by simp))) (hk _ _ (But.refl _ _) rfl)
 ·obtain rfl:=so (show jk[7]? =some qah from rfl) ho
  exact al (br a w _ _ _ _ _ _ _ e8') (hk _ _ (But.refl _ _) rfl)
 ·obtain rfl:=so (show jk[8]? =some qag from rfl) ho
  exact al (zbs a w _ _ _ _ _ _ g7 e7') (hk _ _ (But.refl _ _) rfl)
 ·obtain rfl:=so (show jk[9]? =some qaf from rfl) ho
  exact al (z8 a w _ _ _ _ _ _ g7 3 _ (hD 8 (by simp)) ((hdr hH).ag c2 (by simp))) (hk _ _ (But.refl _ _) rfl)
 ·obtain rfl:=so (show jk[10]? =some zsj from rfl) ho
  exact aw (zas a w _ _ _ _ _ _ _ _ _ (hD 7 (by simp)) (hD 9 (by simp)) HE) (R:=fun w' v=>But [] w w'∧v=_) ((I2 w (hdr hH)).mono fun e w' ⟨he,hb⟩=>⟨_,he,hb,rfl⟩) (fun v w' hv=>hk v w' hv.1 hv.2)
 ·obtain rfl:=so (show jk[11]? =some zsi from rfl) ho
  exact al (zck a w _ _ _ _ _ _ _ _ _ z3 (hD 6 (by simp)) (hD 10 (by simp))) (hk _ _ (But.refl _ _) rfl)
 ·obtain rfl:=so (show jk[12]? =some zsh from rfl) ho
  exact al (zck a w _ _ _ _ _ _ _ _ _ z4 (hD 0 (by simp)) (hD 11 (by simp))) (hk _ _ (But.refl _ _) rfl)
 ·obtain rfl:=so (show jk[13]? =some zkh from rfl) ho
  exact al (zat a w _ _ _ _ _ _ _ (hD 12 (by simp))) (hk _ _ (But.refl _ _) rfl))
 ·(
 intro a w h
 have ea:=h.puts hT (fun i=>match i with
  | 0=>.string s
  | 1=>.func (.func 78) #[] #[]
  | 2=>.pointer (some ⟨g7,2,none⟩)
  | 3=>.int .i64 x
  | 4=>.string tx
  | 5=>.string (⟨#[115,116,111,112,32]⟩++tx)
  | 6=>.string ((⟨#[115,116,111,112,32]⟩++tx)++⟨#[32,108,105,109,105,116,32]⟩)
  | 7=>.func (.func 78) #[] #[]
  | 8=>.pointer (some ⟨g7,3,none⟩)
  | 9=>.int .i64 y
  | 10=>.string ty
  | 11=>.string (((⟨#[115,116,111,112,32]⟩++tx)++⟨#[32,108,105,109,105,116,32]⟩)++ty)
  | 12=>.string (s++(((⟨#[115,116,111,112,32]⟩++tx)++⟨#[32,108,105,109,105,116,32]⟩)++ty))
  | _=>.string (s++(((⟨#[115,116,111,112,32]⟩++tx)++⟨#[32,108,105,109,105,116,32]⟩)++ty))) (fun i hi=>by
  have hi':i<14:=hi
  have hc:=h.has i hi rfl
  have:i=0∨i=1∨i=2∨i=3∨i=4∨i=5∨i=6∨i=7∨i=8∨i=9∨i=10∨i=11∨i=12∨i=13:=by omega
  rcases this with rfl|rfl|rfl|rfl|rfl|rfl|rfl|rfl|rfl|rfl|rfl|rfl|rfl|rfl
  all_goals first | exact hc|rfl)
 rw[ea]
 exact hQ w (hdr h.but)))
end Go.Proofs.YtjlfllhedceigaaGreatDoor
