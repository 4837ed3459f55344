/- A line that is read, and looked at: the  -/
import Derived.Deep.QuietTactic
import Derived.Test.YtcgecpoedojhjaaGreatDoorKPAZb
import Derived.Test.YtcgecpoedojhjaaGreatDoorKPXO
namespace Go.Proofs.YtcgecpoedojhjaaGreatDoor
open Go.Proofs.Tryz
open Go.RowKit
set_option maxHeartbeats 32000000
set_option maxRecDepth 100000
theorem qpd (a:Act) (w:World) (d t0:Nat) (u:TypeId) (ps:String) (ed:Array Edge) (gd:Option (Nat × Bool)) (z0:Value) (h0:a.eval (.tmp t0)=z0) :
  (execOp a.eval { dst:=some d,op:=Op.call { callee:=Callee.value (Operand.func 23),args:=#[Operand.tmp t0],argTypes:=#[37] },type:=u,pos:=ps,after:=ed,guard:=gd }).run prog w=.ok (.enter 23 #[z0]) w:=by
 unfold execOp
 go_simp
 rw[← h0]
 simp[Act.eval]
theorem qpc (a:Act) (w:World) (t1 t2:Nat) (u:TypeId) (ps:String) (ed:Array Edge) (b o:Nat) (z0:Int) (s1:Bool) (x1 y1:Int) (p1:Option Addr) (z2:Int) (z3:Int) (z4:Int) (z5:Int) (z6:ByteArray) (h1:a.eval (.tmp t1)=.pointer (some ⟨b,o,none⟩)) (h2:a.eval (.tmp t2)=.agg #[.int .i64 z0,.bool s1,.int .u64 x1,.int .u64 y1,.pointer p1,.int .i64 z2,.int .i64 z3,.int .i64 z4,.int .i64 z5,.string z6]) (k0:∃ u,w.cell? ⟨b,o,none⟩=some u) (k1:∃ u,w.cell? ⟨b,o+1,none⟩=some u) (k2:∃ u,w.cell? ⟨b,o+2,none⟩=some u) (k3:∃ u,w.cell? ⟨b,o+3,none⟩=some u) (k4:∃ u,w.cell? ⟨b,o+4,none⟩=some u) (k5:∃ u,w.cell? ⟨b,o+5,none⟩=some u) (k6:∃ u,w.cell? ⟨b,o+6,none⟩=some u) (k7:∃ u,w.cell? ⟨b,o+7,none⟩=some u) (k8:∃ u,w.cell? ⟨b,o+8,none⟩=some u) (k9:∃ u,w.cell? ⟨b,o+9,none⟩=some u) (fz:∀ j,w.frozen? ⟨b,j,none⟩=false) :
  (execOp a.eval { dst:=none,op:=Op.store 37 (.tmp t1) (.tmp t2),type:=u,pos:=ps,after:=ed,guard:=none }).run prog w=.ok .skip (w.setCells b o [.int .i64 z0,.bool s1,.int .u64 x1,.int .u64 y1,.pointer p1,.int .i64 z2,.int .i64 z3,.int .i64 z4,.int .i64 z5,.string z6]):=by
 obtain⟨u0,e0⟩:=k0
 obtain⟨u1,e1⟩:=k1
 obtain⟨u2,e2⟩:=k2
 obtain⟨u3,e3⟩:=k3
 obtain⟨u4,e4⟩:=k4
 obtain⟨u5,e5⟩:=k5
 obtain⟨u6,e6⟩:=k6
 obtain⟨u7,e7⟩:=k7
 obtain⟨u8,e8⟩:=k8
 obtain⟨u9,e9⟩:=k9
 unfold execOp
 simp only[h1,h2]
 go_simp
 try rfl
def qjp:Oper:=⟨some 53,.load 37 (.tmp 7),37, "text.go:142",#[],none⟩
def qjo:Oper:=⟨some 54,.load 37 (.tmp 7),37, "text.go:142",#[],none⟩
def qjn:Oper:=⟨some 55,.call { callee:=.value (.func 23),args:=#[.tmp 54],argTypes:=#[37] },26, "text.go:142",#[⟨1,.data⟩],none⟩
def qjm:Oper:=⟨none,.store 37 (.tmp 2) (.tmp 53),0, "text.go:142",#[⟨0,.data⟩,⟨2,.chain⟩,⟨0,.phase⟩,{ on:=1,ground:=.textOnly Departure.lateStores },{ on:=2,ground:=.textOnly Departure.lateStoresUnsure }],none⟩
def qjl:Oper:=⟨some 3,.assign (.tmp 55),26, "text.go:142",#[⟨2,.data⟩,⟨3,.chain⟩,⟨0,.phase⟩,⟨1,.phase⟩,⟨2,.phase⟩,⟨3,.phase⟩],none⟩
def zlk:Array Oper:=#[qjp,qjo,qjn,qjm,qjl]
structure zsu (W0:World) (g7:Nat) (g2:Nat) (kd:Int) (s1:Bool) (x1:Int) (y1:Int) (p1:Option Addr) (fq:Int) (li:Int) (ti:Int) (pq:Int) (tof:ByteArray)   (w:World):Prop where
 mem:But [] W0 w
theorem zsu.but {W0:World} {g7:Nat} {g2:Nat} {kd:Int} {s1:Bool} {x1:Int} {y1:Int} {p1:Option Addr} {fq:Int} {li:Int} {ti:Int} {pq:Int} {tof:ByteArray}  {w w':World} (h:zsu W0 g7 g2 kd s1 x1 y1 p1 fq li ti pq tof  w) (hb:But [] w w'):zsu W0 g7 g2 kd s1 x1 y1 p1 fq li ti pq tof  w' :=
 { mem:=h.mem.trans' hb }
def zen (i:Nat):Nat:=match i with
 | 0=>53
 | 1=>54
 | 2=>55
 | 3=>53
 | _=>3
def zll (i:Nat):Bool:=match i with
 | 3=>false
 | _=>true
def qdt (_g7:Nat) (_g2:Nat) (kd:Int) (s1:Bool) (x1:Int) (y1:Int) (p1:Option Addr) (fq:Int) (li:Int) (ti:Int) (pq:Int) (tof:ByteArray)  (i:Nat):Value:=match i with
 | 0=>.agg #[.int .i64 kd,.bool s1,.int .u64 x1,.int .u64 y1,.pointer p1,.int .i64 fq,.int .i64 li,.int .i64 ti,.int .i64 pq,.string tof]
 | 1=>.agg #[.int .i64 kd,.bool s1,.int .u64 x1,.int .u64 y1,.pointer p1,.int .i64 fq,.int .i64 li,.int .i64 ti,.int .i64 pq,.string tof]
 | 2=>.nilIface
 | 3=>undef
 | _=>.nilIface
theorem zdh:wu zlk [(2,1),(3,0),(3,2),(4,0),(4,1),(4,2),(4,3)]=true:=by kernel_rfl
theorem zzj:∀ i j,i<5→j<5→zll i=true→zll j=true→zen i=zen j→i=j:=fun i j hi hj=>(by decide:∀ i,i<5→∀ j,j<5→zll i=true→zll j=true→zen i=zen j→i=j) i hi j hj
theorem znr (id:Nat) (Q:Exit→Act→World→Prop) (base:Act) (W0:World) (g7:Nat) (g2:Nat) (kd:Int) (s1:Bool) (x1:Int) (y1:Int) (p1:Option Addr) (fq:Int) (li:Int) (ti:Int) (pq:Int) (tof:ByteArray) (hs:55<base.tmps.size) (e7:base.eval (.tmp 7)=.pointer (some ⟨g7,0,none⟩)) (e2:base.eval (.tmp 2)=.pointer (some ⟨g2,0,none⟩))
  (x7:bf W0 g7 kd s1 x1 y1 p1 fq li ti pq tof) (z2:jy 0 W0 g2 [.int .i64 0,.bool false,.int .u64 0,.int .u64 0,.pointer none,.int .i64 0,.int .i64 0,.int .i64 0,.int .i64 0,.string ⟨#[]⟩])
  (CK:∀ w,But [] W0 w→Calls prog 23 #[.agg #[.int .i64 kd,.bool s1,.int .u64 x1,.int .u64 y1,.pointer p1,.int .i64 fq,.int .i64 li,.int .i64 ti,.int .i64 pq,.string tof]] w fun e w'=>e=.returned .nilIface∧But [] w w')
  (hQ:∀  w1,zsu W0 g7 g2 kd s1 x1 y1 p1 fq li ti pq tof  w1→Q .normal (qx base [(53,.agg #[.int .i64 kd,.bool s1,.int .u64 x1,.int .u64 y1,.pointer p1,.int .i64 fq,.int .i64 li,.int .i64 ti,.int .i64 pq,.string tof]),(54,.agg #[.int .i64 kd,.bool s1,.int .u64 x1,.int .u64 y1,.pointer p1,.int .i64 fq,.int .i64 li,.int .i64 ti,.int .i64 pq,.string tof]),(55,.nilIface),(3,.nilIface)]) (w1.setCells g2 (0) [.int .i64 kd,.bool s1,.int .u64 x1,.int .u64 y1,.pointer p1,.int .i64 fq,.int .i64 li,.int .i64 ti,.int .i64 pq,.string tof])) :
  (Code.region id zlk true).wp prog Q base W0:=by
 have hT:∀ i,i<5→zll i=true→zen i<base.tmps.size:=fun i hi _=>by
  have h:zen i≤55:=by revert i;decide
  omega
 refine jm (by kernel_rfl) (wh (by kernel_rfl)) (iy (by kernel_rfl)) (fun (N:Unit) d w=>∃ w1,zsu W0 g7 g2 kd s1 x1 y1 p1 fq li ti pq tof  w1∧(d 3=false→w=w1)∧(d 3=true→w=(w1.setCells g2 (0) [.int .i64 kd,.bool s1,.int .u64 x1,.int .u64 y1,.pointer p1,.int .i64 fq,.int .i64 li,.int .i64 ti,.int .i64 pq,.string tof]))) (fun N=>qdt g7 g2 kd s1 x1 y1 p1 fq li ti pq tof ) zen zll 5 (by kernel_rfl) zzj hT () ⟨_,{ mem:=(But.refl _ _).drew },fun _=>rfl,fun h=>by simp at h⟩ ?_ ?_
 ·intro N d i o a w K hi ho hdi hcl hH he hdep hK
  have hD:=pz zdh ho (fun j=>d j=true∧(zll j=true→a.eval (.tmp (zen j))=qdt g7 g2 kd s1 x1 y1 p1 fq li ti pq tof  j)) hdep
  have e7':=(he 7 (fun j hj _ _=>(by decide:∀ j,j<5→(7:Nat)≠zen j) j hj)).trans e7
  have e2':=(he 2 (fun j hj _ _=>(by decide:∀ j,j<5→(2:Nat)≠zen j) j hj)).trans e2
  have:i=0∨i=1∨i=2∨i=3∨i=4:=by omega
  rcases this with rfl|rfl|rfl|rfl|rfl
  ·obtain rfl:=so (show zlk[0]? =some qjp from rfl) ho
   have hs0:d 3=false:=(hcl.not zdh (i:=3) (j:=0) (by simp) hdi)
   obtain⟨w1,hP,h1,h2⟩:=hH
   obtain rfl:=h1 hs0
   have hW:=hP.mem
   exact zh (ni a w _ _ _ _ _ _ g7 _ _ _ _ _ _ _ _ _ _ e7' (x7.but hW (by simp))) (hK N _ _ (fun _=>rfl) (fun _ _ _ _=>rfl) ⟨_,hP,h1,h2⟩)
  ·obtain rfl:=so (show zlk[1]? =some qjo from rfl) ho
   have hs0:d 3=false:=(hcl.not zdh (i:=3) (j:=2) (by simp) (hcl.not zdh (i:=2) (j:=1) (by simp) hdi))
   obtain⟨w1,hP,h1,h2⟩:=hH
   obtain rfl:=h1 hs0
   have hW:=hP.mem
   exact zh (ni a w _ _ _ _ _ _ g7 _ _ _ _ _ _ _ _ _ _ e7' (x7.but hW (by simp))) (hK N _ _ (fun _=>rfl) (fun _ _ _ _=>rfl) ⟨_,hP,h1,h2⟩)
  ·obtain rfl:=so (show zlk[2]? =some qjn from rfl) ho
   have hs0:d 3=false:=(hcl.not zdh (i:=3) (j:=2) (by simp) hdi)
   obtain⟨w1,hP,h1,h2⟩:=hH
   obtain rfl:=h1 hs0
   have hW:=hP.mem
   exact jd (qpd a w _ _ _ _ _ _ _ ((hD 1 (by simp)).2 rfl)) (R:=fun w' v=>v=qdt g7 g2 kd s1 x1 y1 p1 fq li ti pq tof  2∧But [] w w') ((CK w hW).mono fun e w' ⟨he,hb⟩=>⟨_,he,rfl,hb⟩) (fun v w' hv=>hK N _ _ (fun _=>hv.1) (fun _ _ _ _=>rfl) ⟨_,(hP.but hv.2),fun _=>rfl,fun h=>absurd (hs0.symm.trans h) (by simp)⟩)
  ·obtain rfl:=so (show zlk[3]? =some qjm from rfl) ho
   obtain⟨w1,hP,h1,h2⟩:=hH
   obtain rfl:=h1 hdi
   have hW:=hP.mem
   exact xg (qpc a w _ _ _ _ _ g2 (0) _ _ _ _ _ _ _ _ _ _ e2' ((hD 0 (by simp)).2 rfl) (⟨_,(z2.but hW).cells 0 _ rfl⟩) (⟨_,(z2.but hW).cells 1 _ rfl⟩) (⟨_,(z2.but hW).cells 2 _ rfl⟩) (⟨_,(z2.but hW).cells 3 _ rfl⟩) (⟨_,(z2.but hW).cells 4 _ rfl⟩) (⟨_,(z2.but hW).cells 5 _ rfl⟩) (⟨_,(z2.but hW).cells 6 _ rfl⟩) (⟨_,(z2.but hW).cells 7 _ rfl⟩) (⟨_,(z2.but hW).cells 8 _ rfl⟩) (⟨_,(z2.but hW).cells 9 _ rfl⟩) ((z2.but hW).loose)) (hK N undef _ (fun h=>absurd h (by decide)) (fun _ _ _ _=>rfl) ⟨w,hP,fun h=>absurd h (by rw[q9];simp),fun _=>rfl⟩)
  ·obtain rfl:=so (show zlk[4]? =some qjl from rfl) ho
   exact zh (zae a w _ _ _ _ _ _ _ ((hD 2 (by simp)).2 rfl)) (hK N _ _ (fun _=>rfl) (fun _ _ _ _=>rfl) hH)
 ·intro N d w hd hH
  obtain⟨w1,hP,h1,h2⟩:=hH
  rw[h2 (hd 3 (by omega))]
  exact hQ  w1 hP
open Go.RowKit Go.Shelf
set_option linter.unusedVariables false
def fmW (j:Nat):List (List UInt8):=match j with
 | 0=>[[99,101,100,101],[83,72,65,82,69],[116,111],[78,65,77,69]]
 | 1=>[[115,117,114,112,108,117,115],[76,73,77,73,84],[116,105,109,101,115],[84,73,77,69,83],[116,111],[78,65,77,69]]
 | 2=>[[101,120,99,101,115,115],[70,82,79,77],[108,105,109,105,116],[76,73,77,73,84],[116,111],[78,65,77,69]]
 | 3=>[[101,120,99,101,115,115],[70,82,79,77],[108,105,109,105,116],[76,73,77,73,84],[97,103,97,105,110],[84,73,77,69,83],[97,116],[80,82,73,67,69],[116,111],[78,65,77,69]]
 | _=>[[115,116,111,112],[70,82,79,77],[108,105,109,105,116],[76,73,77,73,84],[116,111],[78,65,77,69]]
def fmT (j:Nat):ByteArray:=match j with
 | 0=>⟨#[99,101,100,101,32,83,72,65,82,69,32,116,111,32,78,65,77,69]⟩
 | 1=>⟨#[115,117,114,112,108,117,115,32,76,73,77,73,84,32,116,105,109,101,115,32,84,73,77,69,83,32,116,111,32,78,65,77,69]⟩
 | 2=>⟨#[101,120,99,101,115,115,32,70,82,79,77,32,108,105,109,105,116,32,76,73,77,73,84,32,116,111,32,78,65,77,69]⟩
 | 3=>⟨#[101,120,99,101,115,115,32,70,82,79,77,32,108,105,109,105,116,32,76,73,77,73,84,32,97,103,97,105,110,32,84,73,77,69,83,32,97,116,32,80,82,73,67,69,32,116,111,32,78,65,77,69]⟩
 | _=>⟨#[115,116,111,112,32,70,82,79,77,32,108,105,109,105,116,32,76,73,77,73,84,32,116,111,32,78,65,77,69]⟩
def fmK (j:Nat):Int:=match j with
 | 0=>1
 | 1=>2
 | 2=>3
 | 3=>3
 | _=>4
def fmL:List Value:=[.int .i64 1,.bool false,.string ⟨#[99,101,100,101,32,83,72,65,82,69,32,116,111,32,78,65,77,69]⟩,.int .i64 2,.bool false,.string ⟨#[115,117,114,112,108,117,115,32,76,73,77,73,84,32,116,105,109,101,115,32,84,73,77,69,83,32,116,111,32,78,65,77,69]⟩,.int .i64 3,.bool false,.string ⟨#[101,120,99,101,115,115,32,70,82,79,77,32,108,105,109,105,116,32,76,73,77,73,84,32,116,111,32,78,65,77,69]⟩,.int .i64 3,.bool true,.string ⟨#[101,120,99,101,115,115,32,70,82,79,77,32,108,105,109,105,116,32,76,73,77,73,84,32,97,103,97,105,110,32,84,73,77,69,83,32,97,116,32,80,82,73,67,69,32,116,111,32,78,65,77,69]⟩,.int .i64 4,.bool false,.string ⟨#[115,116,111,112,32,70,82,79,77,32,108,105,109,105,116,32,76,73,77,73,84,32,116,111,32,78,65,77,69]⟩]
def fmB (j:Nat):Bool:=match j with
 | 3=>true
 | _=>false
theorem zxq (j:Nat) (hj:j<5) (w:World):(Instr.index 93 (.agg #[.int .i64 1,.bool false,.string ⟨#[99,101,100,101,32,83,72,65,82,69,32,116,111,32,78,65,77,69]⟩,.int .i64 2,.bool false,.string ⟨#[115,117,114,112,108,117,115,32,76,73,77,73,84,32,116,105,109,101,115,32,84,73,77,69,83,32,116,111,32,78,65,77,69]⟩,.int .i64 3,.bool false,.string ⟨#[101,120,99,101,115,115,32,70,82,79,77,32,108,105,109,105,116,32,76,73,77,73,84,32,116,111,32,78,65,77,69]⟩,.int .i64 3,.bool true,.string ⟨#[101,120,99,101,115,115,32,70,82,79,77,32,108,105,109,105,116,32,76,73,77,73,84,32,97,103,97,105,110,32,84,73,77,69,83,32,97,116,32,80,82,73,67,69,32,116,111,32,78,65,77,69]⟩,.int .i64 4,.bool false,.string ⟨#[115,116,111,112,32,70,82,79,77,32,108,105,109,105,116,32,76,73,77,73,84,32,116,111,32,78,65,77,69]⟩]) (.int .i64 (j:Int))).run prog w=.ok (.agg #[.int .i64 (fmK j),.bool (fmB j),.string (fmT j)]) w:=by
 have:j=0∨j=1∨j=2∨j=3∨j=4:=by omega
 rcases this with rfl|rfl|rfl|rfl|rfl
 all_goals
  unfold Instr.index
  go_simp
  try exact⟨rfl,rfl,rfl⟩
def xw (w:World):Prop:=∀ k v,fmL[k]? = some v→w.cell? ⟨0,k,none⟩=some v
theorem xw.but {w w':World} (h:xw w) (hb:But [] w w'):xw w':=fun k v hv=>hb.zb (h k v hv) (by simp)
theorem zfk:∀ j,j<5→(∀ x ∈ fmW j,x≠[]∧(32:UInt8) ∉ x)∧fmT j=⟨(jn 32 (fmW j)).toArray⟩∧(jn 32 (fmW j)).length≤60∧0<(fmW j).length∧(fmW j).length≤10:=fun j hj=>by
 have:j=0∨j=1∨j=2∨j=3∨j=4:=by omega
 rcases this with rfl|rfl|rfl|rfl|rfl
 all_goals exact⟨by decide,rfl,by decide,by decide,by decide⟩
theorem zts (j:Nat) (hj:j<5) (mx:Int) (w:World) (hm:w.cell? ⟨2,0,none⟩=some (.int .i64 mx)):Calls prog 17 #[.string (fmT j)] w fun e w'=>∃ a c,e=.returned (.slice a (fmW j).length c)∧lv w' (.slice a (fmW j).length c) (fmW j)∧But [] w w':=by
 obtain⟨h1,h2,h3,h4,h5⟩:=zfk j hj
 refine (zbl (fmW j) h1 (by omega) (by omega) (fmT j) h2 mx w hm).mono ?_
 rintro e w' ⟨v,rfl,ho,hb⟩
 obtain⟨a,c,rfl⟩:=ho.form
 exact⟨a,c,rfl,ho.words,hb⟩
theorem dw (fi:Nat) (hfi:fi<5) (ws:List (List UInt8)) (q:Option Addr) (n cw:Nat) (hn:n=(fmW fi).length) (hwl:n=ws.length) (st:Nat→List Value) (kd:Int) (s:Bool) (x y:Int) (fr li ti pr:Int) (tof:ByteArray) (mx:Int) (w:World) (hw:lv w (.slice q n cw) ws)
  (hst0:st 0=[.int .i64 (fmK fi),.bool false,.int .u64 0,.int .u64 0,.pointer none,.int .i64 0,.int .i64 0,.int .i64 0,.int .i64 0,.string ⟨#[]⟩]) (hstn:st n=[.int .i64 kd,.bool s,.int .u64 x,.int .u64 y,.pointer none,.int .i64 fr,.int .i64 li,.int .i64 ti,.int .i64 pr,.string tof])
  (hne:∀ j,j<fi→(ws[0]?.getD []≠(fmW j)[0]?.getD [])∨n≠(fmW j).length) (he:ws[0]?.getD []=(fmW fi)[0]?.getD [])
  (HEAR:∀ k,k<n→∀ W g,But [] w W→jy 0 W g (st k)→Calls prog 36 #[.pointer (some ⟨g,0,none⟩),yg ((fmW fi)[k]?.getD []),yg (ws[k]?.getD [])] W fun e w'=>e=.returned .nilIface∧jy 0 w' g (st (k+1))∧But [g] W w')
  (CK:∀ W,But [] w W→Calls prog 23 #[zq kd s x y none fr li ti pr tof] W fun e w'=>e=.returned .nilIface∧But [] W w')
  (hF:xw w) (hm:w.cell? ⟨2,0,none⟩=some (.int .i64 mx)) :
  Calls prog 18 #[.slice q n cw] w fun e w'=>e=.returned (.tuple #[.agg #[.int .i64 kd,.bool s,.int .u64 x,.int .u64 y,.pointer none,.int .i64 fr,.int .i64 li,.int .i64 ti,.int .i64 pr,.string tof],.nilIface])∧But [] w w':=by
 have hn0:0<n:=by have:=(zfk fi hfi).2.2.2.1;omega
 have hn10:n≤10:=by have:=(zfk fi hfi).2.2.2.2;omega
 have CUT:=hide (fun j hj W (hb:But [] w W)=>zts j hj mx W (hb.zb hm (by simp)))
 have fc0:=hF 0 _ rfl
 have flt : 0 < w.heap.size:=lt_of_cell fc0
 have fc1:=hF 1 _ rfl
 have fc2:=hF 2 _ rfl
 have fc3:=hF 3 _ rfl
 have fc4:=hF 4 _ rfl
 have fc5:=hF 5 _ rfl
 have fc6:=hF 6 _ rfl
 have fc7:=hF 7 _ rfl
 have fc8:=hF 8 _ rfl
 have fc9:=hF 9 _ rfl
 have fc10:=hF 10 _ rfl
 have fc11:=hF 11 _ rfl
 have fc12:=hF 12 _ rfl
 have fc13:=hF 13 _ rfl
 have fc14:=hF 14 _ rfl
 obtain⟨b,off,rfl,cw0⟩:∃ b off,q=some ⟨b,off,none⟩∧∀ i,i<n→w.cell? ⟨b,off+i,none⟩=some (yg (ws[i]?.getD [])):=by
  obtain⟨a,cap,e,h⟩:=hw
  simp only[Value.slice.injEq] at e
  obtain⟨rfl,-,rfl⟩:=e
  obtain⟨b,off,e1,-⟩:=h 0 ws[0] (List.getElem?_eq_getElem (by omega))
  refine⟨b,off,e1,fun i hi=>?_⟩
  obtain⟨b',off',e2,h2⟩:=h i ws[i] (List.getElem?_eq_getElem (by omega))
  rw[e1] at e2
  simp only[Option.some.injEq,Addr.mk.injEq,and_true] at e2
  rw[List.getElem?_eq_getElem (by omega),e2.1,e2.2]
  exact h2
 have HW:=hide cw0
 have HNE:=hide hne
 have HE:=hide he
 have HH:=hide HEAR
 have HCK:=hide CK
 have HST0:=hide hst0
 have HSTN:=hide hstn
 have HN:=hide hn
 have HWL:=hide hwl
 clear hwl hw hst0 hstn hne he HEAR CK hF hm cw0 hn
 have bA:=hide ((But.refl [] w).alloc (.cells #[.int .i64 0,.bool false,.int .u64 0,.int .u64 0,.pointer none,.int .i64 0,.int .i64 0,.int .i64 0,.int .i64 0,.string ⟨#[]⟩] 37))
 have D2:=hide (jy.made 0 w [.int .i64 0,.bool false,.int .u64 0,.int .u64 0,.pointer none,.int .i64 0,.int .i64 0,.int .i64 0,.int .i64 0,.string ⟨#[]⟩] 37 (Nat.zero_le _))
 obtain⟨g2,hg2⟩:∃ g2,g2=w.heap.size:=⟨_,rfl⟩
 rw[← hg2] at D2
 have HG2:=hide hg2
 go_enter func18,ntmps18
 go_wp2
 rw[← hg2]
 clear hg2
 clear fc0
 clear fc1
 clear fc2
 clear fc3
 clear fc4
 clear fc5
 clear fc6
 clear fc7
 clear fc8
 clear fc9
 clear fc10
 clear fc11
 clear fc12
 clear fc13
 clear fc14
 have hix:=zxq
 generalize (Value.agg #[.int .i64 1,.bool false,.string ⟨#[99,101,100,101,32,83,72,65,82,69,32,116,111,32,78,65,77,69]⟩,.int .i64 2,.bool false,.string ⟨#[115,117,114,112,108,117,115,32,76,73,77,73,84,32,116,105,109,101,115,32,84,73,77,69,83,32,116,111,32,78,65,77,69]⟩,.int .i64 3,.bool false,.string ⟨#[101,120,99,101,115,115,32,70,82,79,77,32,108,105,109,105,116,32,76,73,77,73,84,32,116,111,32,78,65,77,69]⟩,.int .i64 3,.bool true,.string ⟨#[101,120,99,101,115,115,32,70,82,79,77,32,108,105,109,105,116,32,76,73,77,73,84,32,97,103,97,105,110,32,84,73,77,69,83,32,97,116,32,80,82,73,67,69,32,116,111,32,78,65,77,69]⟩,.int .i64 4,.bool false,.string ⟨#[115,116,111,112,32,70,82,79,77,32,108,105,109,105,116,32,76,73,77,73,84,32,116,111,32,78,65,77,69]⟩])=FA at *
 generalize w.alloc (.cells #[.int .i64 0,.bool false,.int .u64 0,.int .u64 0,.pointer none,.int .i64 0,.int .i64 0,.int .i64 0,.int .i64 0,.string ⟨#[]⟩] 37)=W0 at *
 go_loopw [12] (fun i wr=>∃ j:Nat,j≤fi∧i=.int .i64 (j:Int)∧Hid (But [] w wr)∧Hid (jy 0 wr g2 [.int .i64 0,.bool false,.int .u64 0,.int .u64 0,.pointer none,.int .i64 0,.int .i64 0,.int .i64 0,.int .i64 0,.string ⟨#[]⟩])) (fun i _=>5-(intOf i).toNat)
 case atStart=>exact⟨0,Nat.zero_le _,rfl,za bA,za D2⟩
 case round =>
  obtain⟨j,hj,rfl,HB,HD⟩:=hrel
  rename World=>wr
  clear bA D2
  have hj5:j<5:=by omega
  have hix2:=fun W=>hix j hj5 W
  have hjc:((j:Nat):Int)<5:=by omega
  obtain⟨kj,hkj⟩:∃ kj,kj=fmK j:=⟨_,rfl⟩
  obtain⟨bj,hbj⟩:∃ bj,bj=fmB j:=⟨_,rfl⟩
  obtain⟨tj,htj⟩:∃ tj,tj=fmT j:=⟨_,rfl⟩
  rw[← hkj,← hbj,← htj] at hix2
  have CJ:=za CUT j hj5
  rw[← htj] at CJ
  have HCJ:=hide CJ
  have HKJ:=hide hkj
  have bF:But [] wr (wr.alloc (.cells #[.int .i64 kj,.bool bj,.string tj] 92)):=(But.refl [] wr).alloc _
  have D5:=hide (jy.made 0 wr [.int .i64 kj,.bool bj,.string tj] 92 (Nat.zero_le _))
  have HB1:=hide ((za HB).trans' bF)
  have HD1:=hide ((za HD).but bF)
  clear CJ hkj hbj htj bF hix
  go_wp2_with fail
  refine (za HCJ _ (za HB1)).mono ?_
  rintro e w1 ⟨a6,c6,rfl,hwj,hb1⟩
  obtain⟨b6,o6,rfl,cj⟩:∃ b6 o6,a6=some ⟨b6,o6,none⟩∧∀ i,i<(fmW j).length→w1.cell? ⟨b6,o6+i,none⟩=some (yg ((fmW j)[i]?.getD [])):=by
   have hm0:=(zfk j hj5).2.2.2.1
   obtain⟨a,cap,e,h⟩:=hwj
   simp only[Value.slice.injEq] at e
   obtain⟨rfl,-,rfl⟩:=e
   obtain⟨b',off',e1,-⟩:=h 0 (fmW j)[0] (List.getElem?_eq_getElem hm0)
   refine⟨b',off',e1,fun i hi=>?_⟩
   obtain⟨b2,off2,e2,h2⟩:=h i (fmW j)[i] (List.getElem?_eq_getElem hi)
   rw[e1] at e2
   simp only[Option.some.injEq,Addr.mk.injEq,and_true] at e2
   rw[List.getElem?_eq_getElem hi,e2.1,e2.2]
   exact h2
  have HB2:=hide ((za HB1).trans' hb1)
  have HD2:=hide ((za HD1).but hb1)
  have D52:=hide ((za D5).but hb1)
  have hm0:=(zfk j hj5).2.2.2.1
  have hm10:=(zfk j hj5).2.2.2.2
  obtain⟨X0,hX0⟩:∃ X0:ByteArray,X0=⟨(ws[0]?.getD []).toArray⟩:=⟨_,rfl⟩
  obtain⟨Y0,hY0⟩:∃ Y0:ByteArray,Y0=⟨((fmW j)[0]?.getD []).toArray⟩:=⟨_,rfl⟩
  have d0:w1.cell? ⟨b,off,none⟩=some (.string X0):=by rw[hX0];exact (za HB2).zb (za HW 0 hn0) (by simp)
  have e0:w1.cell? ⟨b6,o6,none⟩=some (.string Y0):=by rw[hY0];exact cj 0 hm0
  have HCJ2:=hide cj
  obtain⟨m,hm⟩:∃ m,m=(fmW j).length:=⟨_,rfl⟩
  rw[← hm] at hm0 hm10 HCJ2 ⊢
  have HX0:=hide hX0
  have HY0:=hide hY0
  have HMM:=hide hm
  generalize wr.heap.size=g5 at D52 ⊢
  clear hwj hb1 cj HB1 HD1 D5 HCJ hX0 hY0 hm HB HD
  have hnc:(0:Int)<(n:Int):=by omega
  have hmc:(0:Int)<(m:Int):=by omega
  have hXY:X0.toList=ws[0]?.getD []:=by rw[za HX0,ByteArray.toList_mk]
  have hYX:Y0.toList=(fmW j)[0]?.getD []:=by rw[za HY0,ByteArray.toList_mk]
  by_cases hs:ws[0]?.getD []=(fmW j)[0]?.getD []
  ·have hq:(X0.toList==Y0.toList)=true:=by rw[hXY,hYX,hs];exact beq_self_eq_true _
   by_cases hnm:n=m
   ·have hjf:j=fi:=by
     rcases Nat.lt_or_ge j fi with h | h
     ·rcases za HNE j h with e | e
      ·exact absurd hs e
      ·exact absurd (hnm.trans (za HMM)) e
     ·omega
    subst hnm
    subst hjf
    clear hXY hYX hs
    go_wp2
    go_quiet (fail)
    have bq:But [] w1 (w1.drewN nq):=(But.refl [] w1).drewN nq
    have HB3:=hide ((za HB2).trans' bq)
    have HD3:=hide ((za HD2).but bq)
    have f0:=((za D52).but bq).cells 0 _ rfl
    have HC3:Hid (∀ i,i<n→(w1.drewN nq).cell? ⟨b6,o6+i,none⟩=some (yg ((fmW j)[i]?.getD []))):=fun i hi=>bq.zb (za HCJ2 i hi) (by simp)
    generalize w1.drewN nq=V at *
    have bL:But [] V (V.alloc (.cells #[.int .i64 kj,.bool false,.int .u64 0,.int .u64 0,.pointer none,.int .i64 0,.int .i64 0,.int .i64 0,.int .i64 0,.string ⟨#[]⟩] 37)):=(But.refl [] V).alloc _
    have L0:Hid (jy 0 (V.alloc (.cells #[.int .i64 kj,.bool false,.int .u64 0,.int .u64 0,.pointer none,.int .i64 0,.int .i64 0,.int .i64 0,.int .i64 0,.string ⟨#[]⟩] 37)) V.heap.size (st 0)):=by
     show jy _ _ _ _
     rw[za HST0,← za HKJ]
     exact jy.made 0 V [.int .i64 kj,.bool false,.int .u64 0,.int .u64 0,.pointer none,.int .i64 0,.int .i64 0,.int .i64 0,.int .i64 0,.string ⟨#[]⟩] 37 (Nat.zero_le _)
    have HB4:=hide ((za HB3).trans' bL)
    have HD4:=hide ((za HD3).but bL)
    have HC4:Hid (∀ i,i<n→(V.alloc (.cells #[.int .i64 kj,.bool false,.int .u64 0,.int .u64 0,.pointer none,.int .i64 0,.int .i64 0,.int .i64 0,.int .i64 0,.string ⟨#[]⟩] 37)).cell? ⟨b6,o6+i,none⟩=some (yg ((fmW j)[i]?.getD []))):=fun i hi=>bL.zb (za HC3 i hi) (by simp)
    have hb6:b6<V.heap.size:=lt_of_cell (za HC3 0 hn0)
    have hw7:w.heap.size≤V.heap.size:=(za HB3).size
    have h27:g2<V.heap.size:=(za HD3).lt
    clear bq HB2 HD2 D52 HCJ2 HC3 bL HD3 HB3 d0 e0
    go_wp2
    generalize V.alloc (.cells #[.int .i64 kj,.bool false,.int .u64 0,.int .u64 0,.pointer none,.int .i64 0,.int .i64 0,.int .i64 0,.int .i64 0,.string ⟨#[]⟩] 37)=V1 at *
    obtain⟨g7,hg7⟩:∃ g7,g7=V.heap.size:=⟨_,rfl⟩
    rw[← hg7] at L0 hb6 hw7 h27 ⊢
    clear hg7 f0
    go_loopw [37] (fun i wr=>∃ k:Nat,k≤n∧i=.int .i64 (k:Int)∧Hid (But [] w wr)∧Hid (jy 0 wr g7 (st k))∧Hid (jy 0 wr g2 [.int .i64 0,.bool false,.int .u64 0,.int .u64 0,.pointer none,.int .i64 0,.int .i64 0,.int .i64 0,.int .i64 0,.string ⟨#[]⟩])∧Hid (But [g7] V1 wr)) (fun i _=>n-(intOf i).toNat)
    case atStart=>exact⟨0,Nat.zero_le _,rfl,za HB4,za L0,za HD4,But.refl _ _⟩
    case round =>
     obtain⟨k,hk,rfl,IB,IL,ID,IF⟩:=hrel
     rename World=>wk
     clear HB4 L0 HD4
     by_cases hkn:k<n
     ·obtain⟨xk,hxk⟩:∃ xk:ByteArray,xk=⟨(ws[k]?.getD []).toArray⟩:=⟨_,rfl⟩
      obtain⟨yk,hyk⟩:∃ yk:ByteArray,yk=⟨((fmW j)[k]?.getD []).toArray⟩:=⟨_,rfl⟩
      have d0:wk.cell? ⟨b,off+k,none⟩=some (.string xk):=by rw[hxk];exact (za IB).zb (za HW k hkn) (by simp)
      have e0:wk.cell? ⟨b6,o6+k,none⟩=some (.string yk):=by rw[hyk];exact (za IF).zb (za HC4 k hkn) (by simp;omega)
      have HK:=za HH k hkn wk g7 (za IB) (za IL)
      unfold yg at HK
      rw[← hxk,← hyk] at HK
      have HKH:=hide HK
      clear HK hxk hyk
      go_wp2_with fail
      refine (za HKH).mono ?_
      rintro e wn ⟨rfl,hN2,hb2⟩
      have JL:=hide hN2
      have JB:Hid (But [] w wn):=(za IB).trans hb2 (fun x hx=>by simp at hx;subst hx;exact .inr hw7)
      have JD:=hide ((za ID).beside hb2 (by simp;omega))
      have JF:Hid (But [g7] V1 wn):=(za IF).trans hb2 (fun x hx=>.inl hx)
      clear hN2 hb2 HKH IB IL ID IF
      go_wp2
      exact⟨⟨k+1,by omega,by go_num,za JB,za JL,za JD,za JF⟩,by simp[intOf];omega⟩
     ·obtain rfl:k=n:=by omega
      have hL:=za IL
      rw[za HSTN] at hL
      have HX7:Hid (bf wk g7 kd s x y none fr li ti pr tof):=⟨fun i v hv=>hL.cells i v hv⟩
      have h7:=hL.lt
      clear hL
      go_wp2
      refine znr 14 _ _ wk g7 g2 kd s x y none fr li ti pr tof (by simp) (by simp[Act.eval]) (by simp[Act.eval]) (za HX7) (za ID) (fun W hb=>za HCK W ((za IB).trans' hb)) ?_
      intro w3 hP
      simp only[qx,List.foldl_cons,List.foldl_nil,Act.put,List.setIfInBounds_toArray,List.set_cons_zero,List.set_cons_succ]
      have hput:=((za ID).but hP.mem).put (us:=[.int .i64 kd,.bool s,.int .u64 x,.int .u64 y,.pointer none,.int .i64 fr,.int .i64 li,.int .i64 ti,.int .i64 pr,.string tof]) rfl
      have hS:=zy w3 g2 [.int .i64 kd,.bool s,.int .u64 x,.int .u64 y,.pointer none,.int .i64 fr,.int .i64 li,.int .i64 ti,.int .i64 pr,.string tof] 0
      have HF:Hid (But [] w (w3.setCells g2 0 [.int .i64 kd,.bool s,.int .u64 x,.int .u64 y,.pointer none,.int .i64 fr,.int .i64 li,.int .i64 ti,.int .i64 pr,.string tof])):=((za IB).trans' hP.mem).trans hS (fun x hx=>by simp at hx;subst hx;exact .inr (by have:=za HG2;omega))
      have d0:=hput.cells 0 _ rfl
      have d1:=hput.cells 1 _ rfl
      have d2:=hput.cells 2 _ rfl
      have d3:=hput.cells 3 _ rfl
      have d4:=hput.cells 4 _ rfl
      have d5:=hput.cells 5 _ rfl
      have d6:=hput.cells 6 _ rfl
      have d7:=hput.cells 7 _ rfl
      have d8:=hput.cells 8 _ rfl
      have d9:=hput.cells 9 _ rfl
      generalize w3.setCells g2 0 [.int .i64 kd,.bool s,.int .u64 x,.int .u64 y,.pointer none,.int .i64 fr,.int .i64 li,.int .i64 ti,.int .i64 pr,.string tof]=U at *
      clear hP hput hS
      go_wp2
      exact bodyPost_ret (v:=.tuple #[.agg #[.int .i64 kd,.bool s,.int .u64 x,.int .u64 y,.pointer none,.int .i64 fr,.int .i64 li,.int .i64 ti,.int .i64 pr,.string tof],.nilIface]) (by simp[results,results18,go_sem,d0,d1,d2,d3,d4,d5,d6,d7,d8,d9]) rfl ⟨rfl,za HF⟩
   ·have hlt:j<fi:=by
     rcases Nat.lt_or_ge j fi with h | h
     ·exact h
     ·obtain rfl:j=fi:=by omega
      exact absurd ((za HN).trans (za HMM).symm) hnm
    have hnm2:¬ (n:Int)=(m:Int):=by omega
    clear hXY hYX hs hnm
    go_wp2
    go_quiet (fail)
    have HB3:=hide ((za HB2).drewN nq)
    have HD3:=hide ((za HD2).but ((But.refl [] w1).drewN nq))
    generalize w1.drewN nq=V at *
    go_wp2
    exact⟨⟨j+1,by omega,by go_num,za HB3,za HD3⟩,by simp[intOf];omega⟩
  ·have hq:(X0.toList==Y0.toList)=false:=by rw[hXY,hYX];exact beq_eq_false_iff_ne.2 hs
   have hlt:j<fi:=by
    rcases Nat.lt_or_ge j fi with h | h
    ·exact h
    ·obtain rfl:j=fi:=by omega
     exact absurd (za HE) hs
   clear hXY hYX hs
   go_wp2
   go_quiet (fail)
   have HB3:=hide ((za HB2).drewN nq)
   have HD3:=hide ((za HD2).but ((But.refl [] w1).drewN nq))
   generalize w1.drewN nq=V at *
   go_wp2
   exact⟨⟨j+1,by omega,by go_num,za HB3,za HD3⟩,by simp[intOf];omega⟩
end Go.Proofs.YtcgecpoedojhjaaGreatDoor
