/- The mean of a law, the mean beyond an am -/
import Derived.Laws.MakeOwn
import Derived.Test.YtagmkkiagjmimaaGreatDoorYK1r
import Derived.Test.YtagmkkiagjmimaaGreatDoorYK6
import Derived.Test.YtagmkkiagjmimaaGreatDoorYRLa
namespace Go.Proofs.YtagmkkiagjmimaaGreatDoor
open Go.Proofs.Tryz
open Go.RowKit
set_option maxHeartbeats 16000000
set_option maxRecDepth 100000
def zrh (w:World) (e:Ending) (q:Int) (m:Rat):Prop:=(q≠0∧e=.returned (.tuple #[.agg #[.bool false,.int .u64 0,.int .u64 0,.pointer none],.iface 33 (.int .i64 q)]))∨(q=0∧∃ s x y p,e=.returned (.tuple #[.agg #[.bool s,.int .u64 x,.int .u64 y,.pointer p],.nilIface])∧aq w (.agg #[.bool s,.int .u64 x,.int .u64 y,.pointer p]) m)
theorem ztl (v:Value) (fs:List Rat) (c:Nat) (w:World) (hv:au w v fs) (hn:fs.length≤1000) (lf:∀ f ∈ fs,Len f c) (hc:c≤100) :
   Calls prog 39 #[v] w fun e w'=>zrh w' e (yc fs) (l9 fs (fun k=>(k:Int)) fs.length)∧But [] w w':=by(
 have CH:=af (fun W (h:But [] w W)=>jm v fs c W (hv.but h) hn lf hc)
 have ME:=af (fun W (h:But [] w W)=>zhu v fs c 110 #[] (fun k=>(k:Int)) W (hv.but h) hn lf hc (fun k hk=>⟨by omega,by omega⟩) zod (fun k _ W _=>(zwo k W).mono (fun e w' h=>⟨h.1,by rw[h.2];exact But.refl _ _⟩)))
 obtain⟨q,cap,rfl,hcap,-⟩:=id hv
 generalize hq:yc fs=ce at *
 clear hq hv
 have x2:=bf.new w false 0 0 none 0 27 (yw _)
 have bA:But [] w (w.alloc (.cells #[.bool false,.int .u64 0,.int .u64 0,.pointer none] 27)):=(But.refl _ _).alloc _
 have X2:=af x2
 have BA:=af bA
 clear x2 bA
 have Q2:Hid (w.heap.size≤w.heap.size):=Nat.le_refl _
 go_enter func39,ntmps39
 go_wp2_with fail
 refine (ae CH _ (ae BA)).mono ?_
 rintro e w1 ⟨rfl,hb1⟩
 have B1:=af ((ae BA).trans' hb1)
 have X21:=af ((ae X2).but hb1)
 clear hb1 CH X2 BA
 generalize hg2:w.heap.size=g2 at *
 obtain⟨⟨t2,a2,b2,q2,⟨c0,c1,c2,c3⟩,-⟩,z2⟩:=ae X21
 unfold zcm
 by_cases h0:ce=0
 ·(
 subst h0
 rw[if_pos rfl]
 go_wp2_with fail
 refine (ae ME _ (ae B1)).mono ?_
 rintro e w2 ⟨s,x,y,p,rfl,hf,hb2⟩
 have l2:g2<w1.heap.size:=ai c0
 have z2':∀ j,w2.frozen? ⟨g2,j,none⟩=false:=fun j=>(hb2.frozen (p:=⟨g2,j,none⟩) l2 (by simp)).trans (z2 j)
 replace c0:=hb2.ag c0 (by simp)
 replace c1:=hb2.ag c1 (by simp)
 replace c2:=hb2.ag c2 (by simp)
 replace c3:=hb2.ag c3 (by simp)
 have B2:=af ((ae B1).trans' hb2)
 have HF:=af hf
 have P2:Hid (P4 w2 g2 t2 a2 b2 q2):=⟨c0,c1,c2,c3⟩
 clear hb2 hf ME z2 B1
 go_wp2
 have hP:=ax w2 g2 s x y p
 obtain⟨m0,m1,m2,m3⟩:=j6 w2 g2 s x y p (ae P2)
 have hF:But [] w (qw w2 g2 s x y p):=(ae B2).trans hP (fun x hx=>by simp at hx;subst hx;exact .inr (by omega))
 have hff:=(ae HF).over (ae P2).1 hP
 change bodyPost _ _ _ _ _ (qw w2 g2 s x y p)
 generalize qw w2 g2 s x y p=F at *
 exact bodyPost_ret (v:=.tuple #[.agg #[.bool s,.int .u64 x,.int .u64 y,.pointer p],.nilIface]) (by simp[results,results39,go_sem,m0,m1,m2,m3]) rfl ⟨.inr ⟨rfl,_,_,_,_,rfl,hff⟩,hF⟩)
 ·(
 rw[if_neg h0]
 have P2:Hid (P4 w1 g2 t2 a2 b2 q2):=⟨c0,c1,c2,c3⟩
 go_wp2
 have hP:=ax w1 g2 false 0 0 none
 obtain⟨m0,m1,m2,m3⟩:=j6 w1 g2 false 0 0 none (ae P2)
 have hF:But [] w (qw w1 g2 false 0 0 none):=(ae B1).trans hP (fun x hx=>by simp at hx;subst hx;exact .inr (by omega))
 change bodyPost _ _ _ _ _ (qw w1 g2 false 0 0 none)
 generalize qw w1 g2 false 0 0 none=F at *
 exact bodyPost_ret (v:=.tuple #[.agg #[.bool false,.int .u64 0,.int .u64 0,.pointer none],.iface 33 (.int .i64 ce)]) (by simp[results,results39,go_sem,m0,m1,m2,m3]) rfl ⟨.inl ⟨h0,rfl⟩,hF⟩))
structure qme {α:Type} (ops:Array Oper) (base:Act) (H:α→(Nat→Bool)→World→Prop) (V:α→Nat→Value) (T:Nat→Nat) (wr:Nat→Bool) (m:Nat) (d:Nat→Bool) (a:Act) (w:World) (N:α):Prop where
 down:Closed ops d
 mem:H N d w
 size:a.tmps.size=base.tmps.size
 defers:a.defers=base.defers
 rest:∀ t,(∀ j,j<m→wr j=true→d j=true→t≠T j)→a.tmps[t]? = base.tmps[t]?
 has:∀ i,i<m→wr i=true→d i=true→a.eval (.tmp (T i))=V N i
theorem zvj {P:Program} {id:Nat} {ops:Array Oper} {Q:Exit→Act→World→Prop} {base:Act} {W0:World} (hm:P.follows .mixedOrders=true)
   (hlow:∀ i o,ops[i]? = some o→∀ e ∈ o.after,Region.binds .any e=true→e.on<i)
   (hg:∀ (i:Nat) (o:Oper),ops[i]? = some o→o.guard=none)
   {α:Type} (H:α→(Nat→Bool)→World→Prop) (V:α→Nat→Value) (T:Nat→Nat) (wr:Nat→Bool) (m:Nat) (hsz:ops.size=m)
   (hinj:∀ i j,i<m→j<m→wr i=true→wr j=true→T i=T j→i=j) (hT:∀ i,i<m→wr i=true→T i<base.tmps.size) (N0:α) (h0:H N0 (fun _=>false) W0.drew)
   (hstep:∀ (N:α) (d:Nat→Bool) (i:Nat) (o:Oper) (a:Act) (w:World) (K:Act→World→Prop),i<m→ops[i]? = some o→d i=false→Closed ops d→H N d w→(∀ t,(∀ j,j<m→wr j=true→d j=true→t≠T j)→a.eval (.tmp t)=base.eval (.tmp t))→(∀ e ∈ o.after,Region.binds .any e=true→d e.on=true∧(wr e.on=true→a.eval (.tmp (T e.on))=V N e.on))→(∀ N' v w',(wr i=true→v=V N' i)→(∀ j,j<m→wr j=true→d j=true→V N' j=V N j)→H N' (came d i) w'→K (a.put (if wr i=true then some (T i) else none) v) w')→o.wp P a w K Q)
   (hend:∀ N d w,(∀ i,i<m→d i=true)→H N d w→Q .normal (bj base (((List.range m).filter wr).map fun i=>(T i,V N i))) w) :
   (Code.region id ops true).wp P Q base W0:=by(
 have wpo:∀ i o a w (K:Act→World→Prop),ops[i]? = some o→o.wp P a w K Q→wpOp P ops Q i K a w:=fun i o a w K ho h=>by
  unfold wpOp
  simp only[ho,Region.wanted,hg i o ho,if_true]
  exact .inl h
 refine zbw hm hlow (fun d a w=>∃ N,qme ops base H V T wr m d a w N) ?_ ?_ ?_
 ·exact⟨N0,fun _ _ _ h=>by simp at h,h0,rfl,rfl,fun _ _=>rfl,fun _ _ _ h=>by simp at h⟩
 ·(
 rintro d a w hd ⟨N,h⟩
 have ea:a=bj base (((List.range m).filter wr).map fun i=>(T i,V N i)):=by
  refine zdi _ base a h.defers h.size (fun p hp=>?_) (fun t ht=>?_)
  ·obtain⟨i,hi,rfl⟩:=List.mem_map.1 hp
   obtain⟨hi1,hi2⟩:=List.mem_filter.1 hi
   have hi':=List.mem_range.1 hi1
   exact zfv (h.has i hi' hi2 (hd i (by omega))) (by rw[h.size];exact hT i hi' hi2)
  ·refine h.rest t (fun j hj hw hdj e=>?_)
   exact ht (T j,V N j) (List.mem_map.2 ⟨j,List.mem_filter.2 ⟨List.mem_range.2 hj,hw⟩,rfl⟩) e
 rw[ea]
 exact hend N d w (fun i hi=>hd i (by omega)) h.mem)
 ·(
 rintro d i o a w ho hdi hdep ⟨N,h⟩
 refine wpo i o a w _ ho ?_
 have hi:i<m:=by rw[← hsz];exact (Array.getElem?_eq_some_iff.1 ho).1
 refine hstep N d i o a w _ hi ho hdi h.down h.mem (fun t ht=>zom (h.rest t ht)) (fun ed he hb=>⟨hdep ed he hb,fun hw=>h.has _ (by have:=hlow i o ho ed he hb;omega) hw (hdep ed he hb)⟩) ?_
 rintro N' v w' hv hV hH
 by_cases hw:wr i=true
 ·(
 obtain rfl:=hv hw
 rw[if_pos hw]
 refine⟨N',h.down.next ho hdep,hH,by rw[o9];exact h.size,h.defers,fun t ht=>?_,fun j hj hwj hd=>?_⟩
 ·(
 rw[zde,if_neg (fun e=>ht i hi hw (ek d i) e.symm)]
 refine h.rest t (fun j hj hwj hdj=>ht j hj hwj ?_)
 by_cases e:j=i
 ·subst e;exact ek d j
 ·rw[kr d e];exact hdj)
 ·(
 by_cases e:j=i
 ·subst e
  exact at_eq a (T j) _ (by rw[h.size];exact hT j hj hwj)
 ·rw[kr d e] at hd
  rw[zuj a (T i) (T j) _ (fun e2=>e (hinj j i hj hi hwj hw e2)),h.has j hj hwj hd]
  exact (hV j hj hwj hd).symm))
 ·(
 rw[if_neg hw]
 have ne:∀ j,wr j=true→j≠i:=fun j hj e=>hw (e ▸ hj)
 refine⟨N',h.down.next ho hdep,hH,h.size,h.defers,fun t ht=>h.rest t (fun j hj hwj hdj=>ht j hj hwj (by rw[kr d (ne j hwj)];exact hdj)),fun j hj hwj hd=>?_⟩
 rw[kr d (ne j hwj)] at hd
 rw[show a.put none v=a from rfl,h.has j hj hwj hd]
 exact (hV j hj hwj hd).symm)))
theorem zgo (w:World) (g k:Nat) (v:Value):w.setCell ⟨g,k,none⟩ v=w.setCells g k [v]:=rfl
theorem qai (z:Value) (n k:Nat) (h:k<n):(madeCells #[z] n)[k]? = some z:=by(
 unfold madeCells
 rw[Array.getElem?_map,Array.getElem?_eq_getElem (by simpa using h),Array.getElem_range,Option.map_some]
 have e:k%(#[z]:Array Value).size=0:=by simp[Nat.mod_one]
 rw[e]
 rfl)
structure xq (w:World) (g n:Nat) (S:Nat→Prop) (F:Nat→Rat):Prop where
 told:∀ i,i<n→S i→∃ b,w.cell? ⟨g,i,none⟩=some (.pointer (some ⟨b,0,none⟩))∧ze w b (F i)
 cell:∀ i,i<n→∃ q,w.cell? ⟨g,i,none⟩=some (.pointer q)
 loose:∀ j,w.frozen? ⟨g,j,none⟩=false
 pos:0<n
theorem xq.but {w w':World} {g n:Nat} {S:Nat→Prop} {F:Nat→Rat} (h:xq w g n S F) (hb:But [] w w'):xq w' g n S F :=
 ⟨fun i hi hs=>by
  obtain⟨b,h1,h2⟩:=h.told i hi hs
  exact⟨b,hb.ag h1 (by simp),h2.but hb⟩,fun i hi=>(h.cell i hi).elim fun q hq=>⟨q,hb.ag hq (by simp)⟩,fun j=>by
  obtain⟨q,hq⟩:=h.cell 0 h.pos
  exact (hb.frozen (p:=⟨g,j,none⟩) (show g<_ from ai hq) (by simp)).trans (h.loose j),h.pos⟩
theorem xq.mono {w:World} {g n:Nat} {S S':Nat→Prop} {F F':Nat→Rat} (h:xq w g n S F) (hs:∀ i,i<n→S' i→S i∧F i=F' i):xq w g n S' F' :=
 ⟨fun i hi h'=>by
  obtain⟨h1,h2⟩:=hs i hi h'
  obtain⟨b,h3,h4⟩:=h.told i hi h1
  exact⟨b,h3,by rw[← h2];exact h4⟩,h.cell,h.loose,h.pos⟩
theorem zcy (w:World) (g i:Nat) (v:Value):But [g] w (w.setCell ⟨g,i,none⟩ v):=(But.refl [g] w).setCell (by simp) v
theorem xq.put {w:World} {g n i b:Nat} {S:Nat→Prop} {F:Nat→Rat} {f:Rat} (h:xq w g n S F) (hi:i<n) (hb:ze w b f):xq (w.setCell ⟨g,i,none⟩ (.pointer (some ⟨b,0,none⟩))) g n (fun j=>j=i∨S j) (fun j=>if j=i then f else F j):=by(
 have hB:=zcy w g i (.pointer (some ⟨b,0,none⟩))
 obtain⟨q0,hq0⟩:=h.cell 0 h.pos
 obtain⟨qi,hqi⟩:=h.cell i hi
 have at_:(w.setCell ⟨g,i,none⟩ (.pointer (some ⟨b,0,none⟩))).cell? ⟨g,i,none⟩=some (.pointer (some ⟨b,0,none⟩)):=by
  rw[zgo]
  have e:=World.cell?_setCells_in g [Value.pointer (some ⟨b,0,none⟩)] i w (fun j hj=>by
   have:j=0:=by simpa using hj
   subst this
   rw[Nat.add_zero,hqi];rfl) 0 (by simp)
  rw[Nat.add_zero] at e
  simpa using e
 have off_:∀ j,j≠i→(w.setCell ⟨g,i,none⟩ (.pointer (some ⟨b,0,none⟩))).cell? ⟨g,j,none⟩=w.cell? ⟨g,j,none⟩:=fun j hj=>by
  rw[zgo]
  exact World.cell?_setCells_out g _ _ _ _ (fun _ _=>by
   rcases Nat.lt_or_ge j i with h | h
   ·exact .inl h
   ·exact .inr (by simp;omega))
 refine⟨fun j hj hs=>?_,fun j hj=>?_,fun j=>by rw[zgo,World.frozen?_setCells];exact h.loose j,h.pos⟩
 ·(
 by_cases e:j=i
 ·subst e
  exact⟨b,at_,by rw[if_pos rfl];exact hb.zos hB hq0 (zje _)⟩
 ·rcases hs with h' | h'
  ·exact absurd h' e
  ·obtain⟨b',h1,h2⟩:=h.told j hj h'
   exact⟨b',by rw[off_ j e];exact h1,by rw[if_neg e];exact h2.zos hB hq0 (zje _)⟩)
 ·by_cases e:j=i
  ·subst e;exact⟨_,at_⟩
  ·rw[off_ j e];exact h.cell j hj)
theorem xq.made (w:World) (n:Nat) (hn:0<n) (F:Nat→Rat) (t:TypeId):xq (w.alloc (.cells (madeCells #[.pointer none] n) t)) w.heap.size n (fun _=>False) F :=
 ⟨fun _ _ h=>h.elim,fun i hi=>⟨none,by
  rw[World.cell?_alloc_new]
  rw[qai _ n i hi]⟩,fun j=>by simp,hn⟩
theorem znn (wx:World) (n:Nat) (h:n<1000000):(Instr.makeSlice 42 (.int .i64 (n:Int)) (.int .i64 (n:Int))).run prog wx=.ok (.slice (some ⟨wx.heap.size,0,none⟩) n n) (wx.alloc (.cells (madeCells #[.pointer none] n) 37)):=by(
 obtain⟨ti,hi,hz,hs,hbt⟩:=zmt
 have hmk:=run_make (P:=prog) wx 42 37 ti _ underlying42 hi hz .i64 .i64 (n:Int) (n:Int) (by omega) (by omega) (by rw[hbt];omega) (by omega)
 rw[hs,Int.toNat_natCast,Nat.mul_one] at hmk
 exact hmk)
set_option linter.unusedVariables false
theorem qhm (a:Act) (w:World) (d t0 t1:Nat) (u:TypeId) (ps:String) (ed:Array Edge) (gd:Option (Nat × Bool)) (z0 z1:Value) (h0:a.eval (.tmp t0)=z0) (h1:a.eval (.tmp t1)=z1) :
   (execOp a.eval { dst:=some d,op:=Op.call { callee:=Callee.value (Operand.func 89),args:=#[Operand.tmp t0,Operand.tmp t1],argTypes:=#[27,27] },type:=u,pos:=ps,after:=ed,guard:=gd }).run prog w=.ok (.enter 89 #[z0,z1]) w:=by(
 unfold execOp
 go_simp
 rw[← h0,← h1]
 simp[Act.eval])
theorem qhl (a:Act) (w:World) (d t0 t1:Nat) (u:TypeId) (ps:String) (ed:Array Edge) (gd:Option (Nat × Bool)) (z0 z1:Value) (h0:a.eval (.tmp t0)=z0) (h1:a.eval (.tmp t1)=z1) :
   (execOp a.eval { dst:=some d,op:=Op.call { callee:=Callee.value (Operand.func 56),args:=#[Operand.tmp t0,Operand.tmp t1],argTypes:=#[27,27] },type:=u,pos:=ps,after:=ed,guard:=gd }).run prog w=.ok (.enter 56 #[z0,z1]) w:=by(
 unfold execOp
 go_simp
 rw[← h0,← h1]
 simp[Act.eval])
theorem qhk (a:Act) (w:World) (d:Nat) (u:TypeId) (ps:String) (ed:Array Edge) (gd:Option (Nat × Bool)) (c:Value) :
   (execOp a.eval { dst:=some d,op:=Op.assign (Operand.const c),type:=u,pos:=ps,after:=ed,guard:=gd }).run prog w=.ok (.value c) w:=by(
 unfold execOp
 go_simp
 try rfl)
theorem qhj (a:Act) (w:World) (t1 t2:Nat) (u:TypeId) (ps:String) (ed:Array Edge) (b o:Nat) (s0:Bool) (x0 y0:Int) (p0:Option Addr) (h1:a.eval (.tmp t1)=.pointer (some ⟨b,o,none⟩)) (h2:a.eval (.tmp t2)=.agg #[.bool s0,.int .u64 x0,.int .u64 y0,.pointer p0]) (k0:∃ u,w.cell? ⟨b,o,none⟩=some u) (k1:∃ u,w.cell? ⟨b,o+1,none⟩=some u) (k2:∃ u,w.cell? ⟨b,o+2,none⟩=some u) (k3:∃ u,w.cell? ⟨b,o+3,none⟩=some u) (fz:∀ j,w.frozen? ⟨b,j,none⟩=false) :
   (execOp a.eval { dst:=none,op:=Op.store 27 (.tmp t1) (.tmp t2),type:=u,pos:=ps,after:=ed,guard:=none }).run prog w=.ok .skip (w.setCells b o [.bool s0,.int .u64 x0,.int .u64 y0,.pointer p0]):=by(
 obtain⟨u0,e0⟩:=k0
 obtain⟨u1,e1⟩:=k1
 obtain⟨u2,e2⟩:=k2
 obtain⟨u3,e3⟩:=k3
 unfold execOp
 simp only[h1,h2]
 go_simp
 try rfl)
def qje:Oper:=⟨some 17,.load 27 (.tmp 6),27, "claims.go:63",#[],none⟩
def qjd:Oper:=⟨some 18,.load 27 (.tmp 5),27, "claims.go:63",#[],none⟩
def qjc:Oper:=⟨some 19,.load 27 (.tmp 5),27, "claims.go:63",#[],none⟩
def qjb:Oper:=⟨some 20,.call { callee:=.value (.func 89),args:=#[.tmp 18,.tmp 19],argTypes:=#[27,27] },27, "claims.go:63",#[⟨1,.data⟩,⟨2,.data⟩],none⟩
def qja:Oper:=⟨some 21,.call { callee:=.value (.func 56),args:=#[.tmp 17,.tmp 20],argTypes:=#[27,27] },27, "claims.go:63",#[⟨0,.data⟩,⟨3,.data⟩,⟨3,.chain⟩],none⟩
def qiz:Oper:=⟨none,.store 27 (.tmp 2) (.tmp 21),0, "claims.go:63",#[⟨4,.data⟩,⟨4,.chain⟩,⟨0,.phase⟩,⟨1,.phase⟩,⟨2,.phase⟩,⟨3,.phase⟩,⟨4,.phase⟩],none⟩
def qiy:Oper:=⟨some 3,.assign (.const .nilIface),29, "claims.go:63",#[⟨5,.chain⟩,⟨0,.phase⟩,⟨1,.phase⟩,⟨2,.phase⟩,⟨3,.phase⟩,⟨4,.phase⟩,⟨5,.phase⟩],none⟩
def zhk:Array Oper:=#[qje,qjd,qjc,qjb,qja,qiz,qiy]
structure zfd (W0:World) (g2:Nat) (g5:Nat) (g6:Nat) (r1:Rat) (r2:Rat) (s1:Bool) (x1:Int) (y1:Int) (p1:Option Addr) (s2:Bool) (x2:Int) (y2:Int) (p2:Option Addr) (za:FZ) (zb:FZ) (b3:Bool) (b4:Bool) (w:World):Prop where
 mem:But [] W0 w
 f3:b3=true→aq w (.agg #[.bool za.1,.int .u64 za.2.1,.int .u64 za.2.2.1,.pointer za.2.2.2]) (r1)
 f4:b4=true→aq w (.agg #[.bool zb.1,.int .u64 zb.2.1,.int .u64 zb.2.2.1,.pointer zb.2.2.2]) (r2)
theorem zfd.but {W0:World} {g2:Nat} {g5:Nat} {g6:Nat} {r1:Rat} {r2:Rat} {s1:Bool} {x1:Int} {y1:Int} {p1:Option Addr} {s2:Bool} {x2:Int} {y2:Int} {p2:Option Addr} {za:FZ} {zb:FZ} {b3 b4:Bool} {w w':World} (h:zfd W0 g2 g5 g6 r1 r2 s1 x1 y1 p1 s2 x2 y2 p2 za zb b3 b4 w) (hb:But [] w w'):zfd W0 g2 g5 g6 r1 r2 s1 x1 y1 p1 s2 x2 y2 p2 za zb b3 b4 w' :=
 { mem:=h.mem.trans' hb,f3:=fun e=>(h.f3 e).but hb,f4:=fun e=>(h.f4 e).but hb }
theorem zfd.s3 {W0:World} {g2:Nat} {g5:Nat} {g6:Nat} {r1:Rat} {r2:Rat} {s1:Bool} {x1:Int} {y1:Int} {p1:Option Addr} {s2:Bool} {x2:Int} {y2:Int} {p2:Option Addr} {za:FZ} {zb:FZ} {b3 b4:Bool} {w:World} (h:zfd W0 g2 g5 g6 r1 r2 s1 x1 y1 p1 s2 x2 y2 p2 za zb b3 b4 w) (za':FZ) (hf:aq w (.agg #[.bool za'.1,.int .u64 za'.2.1,.int .u64 za'.2.2.1,.pointer za'.2.2.2]) (r1)):zfd W0 g2 g5 g6 r1 r2 s1 x1 y1 p1 s2 x2 y2 p2 za' zb true b4 w :=
 { mem:=h.mem,f3:=fun _=>hf,f4:=h.f4 }
theorem zfd.s4 {W0:World} {g2:Nat} {g5:Nat} {g6:Nat} {r1:Rat} {r2:Rat} {s1:Bool} {x1:Int} {y1:Int} {p1:Option Addr} {s2:Bool} {x2:Int} {y2:Int} {p2:Option Addr} {za:FZ} {zb:FZ} {b3 b4:Bool} {w:World} (h:zfd W0 g2 g5 g6 r1 r2 s1 x1 y1 p1 s2 x2 y2 p2 za zb b3 b4 w) (zb':FZ) (hf:aq w (.agg #[.bool zb'.1,.int .u64 zb'.2.1,.int .u64 zb'.2.2.1,.pointer zb'.2.2.2]) (r2)):zfd W0 g2 g5 g6 r1 r2 s1 x1 y1 p1 s2 x2 y2 p2 za zb' b3 true w :=
 { mem:=h.mem,f3:=h.f3,f4:=fun _=>hf }
def zfc (i:Nat):Nat:=match i with
 | 0=>17
 | 1=>18
 | 2=>19
 | 3=>20
 | 4=>21
 | 5=>17
 | _=>3
def zmo (i:Nat):Bool:=match i with
 | 5=>false
 | _=>true
def qix (g2:Nat) (g5:Nat) (g6:Nat) (r1:Rat) (r2:Rat) (s1:Bool) (x1:Int) (y1:Int) (p1:Option Addr) (s2:Bool) (x2:Int) (y2:Int) (p2:Option Addr) (za:FZ) (zb:FZ) (i:Nat):Value:=match i with
 | 0=>.agg #[.bool s1,.int .u64 x1,.int .u64 y1,.pointer p1]
 | 1=>.agg #[.bool s2,.int .u64 x2,.int .u64 y2,.pointer p2]
 | 2=>.agg #[.bool s2,.int .u64 x2,.int .u64 y2,.pointer p2]
 | 3=>.agg #[.bool za.1,.int .u64 za.2.1,.int .u64 za.2.2.1,.pointer za.2.2.2]
 | 4=>.agg #[.bool zb.1,.int .u64 zb.2.1,.int .u64 zb.2.2.1,.pointer zb.2.2.2]
 | 5=>undef
 | _=>.nilIface
theorem zdl:zfm zhk [(3,1),(3,2),(4,0),(4,3),(5,0),(5,1),(5,2),(5,3),(5,4),(6,0),(6,1),(6,2),(6,3),(6,4),(6,5)]=true:=by kernel_rfl
theorem zzm:∀ i j,i<7→j<7→zmo i=true→zmo j=true→zfc i=zfc j→i=j:=fun i j hi hj=>(by decide:∀ i,i<7→∀ j,j<7→zmo i=true→zmo j=true→zfc i=zfc j→i=j) i hi j hj
theorem zin (id:Nat) (Q:Exit→Act→World→Prop) (base:Act) (W0:World) (g2:Nat) (g5:Nat) (g6:Nat) (r1:Rat) (r2:Rat) (s1:Bool) (x1:Int) (y1:Int) (p1:Option Addr) (s2:Bool) (x2:Int) (y2:Int) (p2:Option Addr) (hs:21<base.tmps.size) (e2:base.eval (.tmp 2)=.pointer (some ⟨g2,0,none⟩)) (e5:base.eval (.tmp 5)=.pointer (some ⟨g5,0,none⟩)) (e6:base.eval (.tmp 6)=.pointer (some ⟨g6,0,none⟩))
   (c1:P4o W0 g6 (0) s1 x1 y1 p1) (c2:P4o W0 g5 (0) s2 x2 y2 p2) (cx:∀ k,k<4→∃ u,W0.cell? ⟨g2,k,none⟩=some u) (fx:∀ j,W0.frozen? ⟨g2,j,none⟩=false) (MU:∀ w,But [] W0 w→Calls prog 89 #[.agg #[.bool s2,.int .u64 x2,.int .u64 y2,.pointer p2],.agg #[.bool s2,.int .u64 x2,.int .u64 y2,.pointer p2]] w fun e w'=>∃ z:FZ,e=.returned (.agg #[.bool z.1,.int .u64 z.2.1,.int .u64 z.2.2.1,.pointer z.2.2.2])∧aq w' (.agg #[.bool z.1,.int .u64 z.2.1,.int .u64 z.2.2.1,.pointer z.2.2.2]) (r1)∧But [] w w') (SB:∀ w (y:FZ),But [] W0 w→aq w (.agg #[.bool y.1,.int .u64 y.2.1,.int .u64 y.2.2.1,.pointer y.2.2.2]) r1→Calls prog 56 #[.agg #[.bool s1,.int .u64 x1,.int .u64 y1,.pointer p1],.agg #[.bool y.1,.int .u64 y.2.1,.int .u64 y.2.2.1,.pointer y.2.2.2]] w fun e w'=>∃ z:FZ,e=.returned (.agg #[.bool z.1,.int .u64 z.2.1,.int .u64 z.2.2.1,.pointer z.2.2.2])∧aq w' (.agg #[.bool z.1,.int .u64 z.2.1,.int .u64 z.2.2.1,.pointer z.2.2.2]) (r2)∧But [] w w')
   (hQ:∀ (za:FZ) (zb:FZ) w1,zfd W0 g2 g5 g6 r1 r2 s1 x1 y1 p1 s2 x2 y2 p2 za zb true true w1→Q .normal (bj base [(17,.agg #[.bool s1,.int .u64 x1,.int .u64 y1,.pointer p1]),(18,.agg #[.bool s2,.int .u64 x2,.int .u64 y2,.pointer p2]),(19,.agg #[.bool s2,.int .u64 x2,.int .u64 y2,.pointer p2]),(20,.agg #[.bool za.1,.int .u64 za.2.1,.int .u64 za.2.2.1,.pointer za.2.2.2]),(21,.agg #[.bool zb.1,.int .u64 zb.2.1,.int .u64 zb.2.2.1,.pointer zb.2.2.2]),(3,.nilIface)]) (w1.setCells g2 (0) [.bool zb.1,.int .u64 zb.2.1,.int .u64 zb.2.2.1,.pointer zb.2.2.2])) :
   (Code.region id zhk true).wp prog Q base W0:=by(
 have hT:∀ i,i<7→zmo i=true→zfc i<base.tmps.size:=fun i hi _=>by
  have h:zfc i≤21:=by revert i;decide
  omega
 refine zvj (by kernel_rfl) (ou (by kernel_rfl)) (zln (by kernel_rfl)) (fun (N:(FZ) × (FZ)) d w=>∃ w1,zfd W0 g2 g5 g6 r1 r2 s1 x1 y1 p1 s2 x2 y2 p2 N.1 N.2 (d 3) (d 4) w1∧(d 5=false→w=w1)∧(d 5=true→w=(w1.setCells g2 (0) [.bool N.2.1,.int .u64 N.2.2.1,.int .u64 N.2.2.2.1,.pointer N.2.2.2.2]))) (fun N=>qix g2 g5 g6 r1 r2 s1 x1 y1 p1 s2 x2 y2 p2 N.1 N.2) zfc zmo 7 (by kernel_rfl) zzm hT ((false,0,0,none),(false,0,0,none)) ⟨_,{ mem:=(But.refl _ _).drew,f3:=fun h=>by simp at h,f4:=fun h=>by simp at h },fun _=>rfl,fun h=>by simp at h⟩ ?_ ?_
 ·(
 intro N d i o a w K hi ho hdi hcl hH he hdep hK
 have hD:=zqx zdl ho (fun j=>d j=true∧(zmo j=true→a.eval (.tmp (zfc j))=qix g2 g5 g6 r1 r2 s1 x1 y1 p1 s2 x2 y2 p2 N.1 N.2 j)) hdep
 have e2':=(he 2 (fun j hj _ _=>(by decide:∀ j,j<7→(2:Nat)≠zfc j) j hj)).trans e2
 have e5':=(he 5 (fun j hj _ _=>(by decide:∀ j,j<7→(5:Nat)≠zfc j) j hj)).trans e5
 have e6':=(he 6 (fun j hj _ _=>(by decide:∀ j,j<7→(6:Nat)≠zfc j) j hj)).trans e6
 have:i=0∨i=1∨i=2∨i=3∨i=4∨i=5∨i=6:=by omega
 rcases this with rfl|rfl|rfl|rfl|rfl|rfl|rfl
 ·(
 obtain rfl:=so (show zhk[0]? =some qje from rfl) ho
 have hs0:d 5=false:=(hcl.not zdl (i:=5) (j:=0) (by simp) hdi)
 obtain⟨w1,hP,h1,h2⟩:=hH
 obtain rfl:=h1 hs0
 have hW:=hP.mem
 exact al (aw a w _ _ _ _ _ _ g6 (0) _ _ _ _ e6' (c1.but hW (by simp))) (hK N _ _ (fun _=>rfl) (fun _ _ _ _=>rfl) ⟨_,hP,h1,h2⟩))
 ·(
 obtain rfl:=so (show zhk[1]? =some qjd from rfl) ho
 have hs0:d 5=false:=(hcl.not zdl (i:=5) (j:=1) (by simp) hdi)
 obtain⟨w1,hP,h1,h2⟩:=hH
 obtain rfl:=h1 hs0
 have hW:=hP.mem
 exact al (aw a w _ _ _ _ _ _ g5 (0) _ _ _ _ e5' (c2.but hW (by simp))) (hK N _ _ (fun _=>rfl) (fun _ _ _ _=>rfl) ⟨_,hP,h1,h2⟩))
 ·(
 obtain rfl:=so (show zhk[2]? =some qjc from rfl) ho
 have hs0:d 5=false:=(hcl.not zdl (i:=5) (j:=2) (by simp) hdi)
 obtain⟨w1,hP,h1,h2⟩:=hH
 obtain rfl:=h1 hs0
 have hW:=hP.mem
 exact al (aw a w _ _ _ _ _ _ g5 (0) _ _ _ _ e5' (c2.but hW (by simp))) (hK N _ _ (fun _=>rfl) (fun _ _ _ _=>rfl) ⟨_,hP,h1,h2⟩))
 ·(
 obtain rfl:=so (show zhk[3]? =some qjb from rfl) ho
 have hs0:d 5=false:=(hcl.not zdl (i:=5) (j:=3) (by simp) hdi)
 obtain⟨w1,hP,h1,h2⟩:=hH
 obtain rfl:=h1 hs0
 have hW:=hP.mem
 exact ay (qhm a w _ _ _ _ _ _ _ _ _ ((hD 1 (by simp)).2 rfl) ((hD 2 (by simp)).2 rfl)) (R:=fun w' u=>∃ v,u=.agg #[.bool v.1,.int .u64 v.2.1,.int .u64 v.2.2.1,.pointer v.2.2.2]∧(aq w' (.agg #[.bool v.1,.int .u64 v.2.1,.int .u64 v.2.2.1,.pointer v.2.2.2]) (r1))∧But [] w w') ((MU w hW).mono fun e w' ⟨v,he,hf,hb⟩=>⟨_,he,v,rfl,hf,hb⟩) (fun u w' ⟨v,hu,hf,hb⟩=>hK (v,N.2) _ _ (fun _=>hu) (fun j hj _ hdj=>by
  have:j=0∨j=1∨j=2∨j=3∨j=4∨j=5∨j=6:=by omega
  rcases this with rfl|rfl|rfl|rfl|rfl|rfl|rfl <;> first|rfl | exact absurd (hdi.symm.trans hdj) (by simp)) ⟨_,((hP.but hb).s3 v hf),fun _=>rfl,fun h=>absurd (hs0.symm.trans h) (by simp)⟩))
 ·(
 obtain rfl:=so (show zhk[4]? =some qja from rfl) ho
 have hs0:d 5=false:=(hcl.not zdl (i:=5) (j:=4) (by simp) hdi)
 obtain⟨w1,hP,h1,h2⟩:=hH
 obtain rfl:=h1 hs0
 have hW:=hP.mem
 have t3:d 3=true:=(hD 3 (by simp)).1
 exact ay (qhl a w _ _ _ _ _ _ _ _ _ ((hD 0 (by simp)).2 rfl) ((hD 3 (by simp)).2 rfl)) (R:=fun w' u=>∃ v,u=.agg #[.bool v.1,.int .u64 v.2.1,.int .u64 v.2.2.1,.pointer v.2.2.2]∧(aq w' (.agg #[.bool v.1,.int .u64 v.2.1,.int .u64 v.2.2.1,.pointer v.2.2.2]) (r2))∧But [] w w') ((SB w N.1 hW (hP.f3 t3)).mono fun e w' ⟨v,he,hf,hb⟩=>⟨_,he,v,rfl,hf,hb⟩) (fun u w' ⟨v,hu,hf,hb⟩=>hK (N.1,v) _ _ (fun _=>hu) (fun j hj _ hdj=>by
  have:j=0∨j=1∨j=2∨j=3∨j=4∨j=5∨j=6:=by omega
  rcases this with rfl|rfl|rfl|rfl|rfl|rfl|rfl <;> first|rfl | exact absurd (hdi.symm.trans hdj) (by simp)) ⟨_,((hP.but hb).s4 v hf),fun _=>rfl,fun h=>absurd (hs0.symm.trans h) (by simp)⟩))
 ·(
 obtain rfl:=so (show zhk[5]? =some qiz from rfl) ho
 obtain⟨w1,hP,h1,h2⟩:=hH
 obtain rfl:=h1 hdi
 have hW:=hP.mem
 have t3:d 3=true:=(hD 3 (by simp)).1
 have t4:d 4=true:=(hD 4 (by simp)).1
 have hx:∀ k,k<4→∃ u,w.cell? ⟨g2,k,none⟩=some u:=fun k hk=>(cx k hk).elim fun u hu=>⟨u,hW.ag hu (by simp)⟩
 exact oo (qhj a w _ _ _ _ _ g2 (0) _ _ _ _ e2' ((hD 4 (by simp)).2 rfl) (hx 0 (by omega)) (hx 1 (by omega)) (hx 2 (by omega)) (hx 3 (by omega)) (fun j=>(hW.frozen (p:=⟨g2,j,none⟩) ((cx 0 (by omega)).elim fun u hu=>show g2<_ from ai hu) (by simp)).trans (fx j))) (hK N undef _ (fun h=>absurd h (by decide)) (fun _ _ _ _=>rfl) ⟨w,hP,fun h=>absurd h (by rw[ek];simp),fun _=>rfl⟩))
 ·obtain rfl:=so (show zhk[6]? =some qiy from rfl) ho
  exact al (qhk a w _ _ _ _ _ _) (hK N _ _ (fun _=>rfl) (fun _ _ _ _=>rfl) hH))
 ·(
 intro N d w hd hH
 obtain⟨w1,hP,h1,h2⟩:=hH
 rw[h2 (hd 5 (by omega))]
 rw[hd 3 (by omega),hd 4 (by omega)] at hP
 exact hQ N.1 N.2 w1 hP))
theorem zzd (w:World) (g:Nat) (s:Bool) (x y:Int) (p:Option Addr):w.setCells g (0) [.bool s,.int .u64 x,.int .u64 y,.pointer p]=qw w g s x y p:=rfl
theorem qle (k:Int) (w:World):Calls prog 111 #[.int .i64 k] w fun e w'=>e=.returned (.int .i64 k)∧But [] w w':=by(
 go_enter func111,ntmps111
 go_wp2
 go_ret
 exact⟨rfl,But.refl _ _⟩)
theorem qld (k:Nat) (hk:k≤1000) (w:World):Calls prog 112 #[.int .i64 (k:Int)] w fun e w'=>e=.returned (.int .i64 ((k*k:Nat):Int))∧But [] w w':=by(
 obtain⟨m,hm⟩:∃ m,m=k*k:=⟨_,rfl⟩
 have hm2:m≤1000000:=by rw[hm];exact Nat.le_trans (Nat.mul_le_mul hk hk) (by omega)
 have hw0:wrap64 ((k:Int)*(k:Int))=(m:Int):=by
  have e:((k*k:Nat):Int)=(k:Int)*(k:Int):=Int.natCast_mul _ _
  rw[← e,← hm];unfold wrap64;omega
 rw[← hm]
 clear hm
 go_enter func112,ntmps112
 go_wp2
 go_ret
 exact⟨congrArg (fun z=>Ending.returned (.int .i64 z)) hw0,But.refl _ _⟩)
theorem qax:∀ args W,(callFunc 111 args).run prog W=.ok (.enter 111 args) W:=enters_of func111 (by kernel_rfl) rfl
theorem qaw:∀ args W,(callFunc 112 args).run prog W=.ok (.enter 112 args) W:=enters_of func112 (by kernel_rfl) rfl
def qha (fs:List Rat):Rat:=l9 fs (fun k=>((k*k:Nat):Int)) fs.length-l9 fs (fun k=>(k:Int)) fs.length*l9 fs (fun k=>(k:Int)) fs.length
theorem zwb (v:Value) (fs:List Rat) (c:Nat) (w:World) (hv:au w v fs) (hn:fs.length≤1000) (lf:∀ f ∈ fs,Len f c) (hc:c≤100) :
   Calls prog 40 #[v] w fun e w'=>zrh w' e (yc fs) (qha fs)∧But [] w w':=by(
 have CH:=af (fun W (h:But [] w W)=>jm v fs c W (hv.but h) hn lf hc)
 have hkk:∀ k,k<fs.length→k*k≤1000*1000:=fun k hk=>Nat.mul_le_mul (by omega) (by omega)
 have M1:=af (fun W (h:But [] w W)=>zhu v fs c 111 #[] (fun k=>(k:Int)) W (hv.but h) hn lf hc (fun k hk=>⟨by omega,by omega⟩) qax (fun k _ W _=>qle k W))
 have M2:=af (fun W (h:But [] w W)=>zhu v fs c 112 #[] (fun k=>((k*k:Nat):Int)) W (hv.but h) hn lf hc (fun k hk=>⟨by omega,by have:=hkk k hk;show ((k*k:Nat):Int)<4294967296;omega⟩) qaw (fun k hk W _=>qld k (by omega) W))
 have hb:fs.length*(c+2)≤1000*102:=Nat.mul_le_mul hn (by omega)
 have l1:Len (l9 fs (fun k=>(k:Int)) fs.length) 103000:=(zgd c fs _ lf (fun k hk=>by show ((k:Int)).natAbs<_;omega) fs.length (Nat.le_refl _)).mono (by omega)
 have l2:Len (l9 fs (fun k=>((k*k:Nat):Int)) fs.length) 103000:=(zgd c fs _ lf (fun k hk=>by have:=hkk k hk;show (((k*k:Nat):Int)).natAbs<_;omega) fs.length (Nat.le_refl _)).mono (by omega)
 unfold qha
 obtain⟨A,hA⟩:∃ A,A=l9 fs (fun k=>(k:Int)) fs.length:=⟨_,rfl⟩
 obtain⟨S,hS⟩:∃ S,S=l9 fs (fun k=>((k*k:Nat):Int)) fs.length:=⟨_,rfl⟩
 rw[← hA] at M1 l1
 rw[← hS] at M2 l2
 rw[← hA,← hS]
 clear hA hS hkk hb
 have lA2:Len (A*A) 206000:=zgc l1 l1 _ (by omega)
 have MU:=af (fun (W:World) (v1:Value) (h:aq W v1 A)=>zye (zay v1 v1 A A W h h (l1.mono (by omega)) (l1.mono (by omega))))
 have SB:=af (fun (W:World) (v1 v2:Value) (h:aq W v1 S) (h2:aq W v2 (A*A))=>zye (zcx v1 v2 S (A*A) W h h2 (l2.mono (by omega)) (lA2.mono (by omega))))
 obtain⟨q,cap,rfl,hcap,-⟩:=id hv
 generalize hq:yc fs=ce at *
 clear hq hv l1 l2 lA2
 have x2:=bf.new w false 0 0 none 0 27 (yw _)
 have bA:But [] w (w.alloc (.cells #[.bool false,.int .u64 0,.int .u64 0,.pointer none] 27)):=(But.refl _ _).alloc _
 have X2:=af x2
 have BA:=af bA
 clear x2 bA
 have Q2:Hid (w.heap.size≤w.heap.size):=Nat.le_refl _
 go_enter func40,ntmps40
 go_wp2_with fail
 refine (ae CH _ (ae BA)).mono ?_
 rintro e w1 ⟨rfl,hb1⟩
 have B1:=af ((ae BA).trans' hb1)
 have X21:=af ((ae X2).but hb1)
 clear hb1 CH X2 BA
 generalize hg2:w.heap.size=g2 at *
 unfold zcm
 by_cases h0:ce=0
 ·(
 subst h0
 rw[if_pos rfl]
 go_wp2_with fail
 refine (ae M1 _ (ae B1)).mono ?_
 rintro e w2 ⟨s5,x5,y5,p5,rfl,hf,hb2⟩
 have bA:But [] w2 (w2.alloc (.cells #[.bool s5,.int .u64 x5,.int .u64 y5,.pointer p5] 27)):=(But.refl _ _).alloc _
 have B2:=af (((ae B1).trans' hb2).trans' bA)
 have X22:=af ((ae X21).but (hb2.trans' bA))
 have F5:=af (hf.but bA)
 have K5:Hid (P4 (w2.alloc (.cells #[.bool s5,.int .u64 x5,.int .u64 y5,.pointer p5] 27)) w2.heap.size s5 x5 y5 p5):=⟨by simp,by simp,by simp,by simp⟩
 clear hb2 hf M1 B1 X21 bA
 go_wp2_with fail
 generalize w2.heap.size=g5 at *
 generalize w2.alloc (.cells #[.bool s5,.int .u64 x5,.int .u64 y5,.pointer p5] 27)=V2 at *
 refine (ae M2 _ (ae B2)).mono ?_
 rintro e w3 ⟨s6,x6,y6,p6,rfl,hf,hb3⟩
 have bA:But [] w3 (w3.alloc (.cells #[.bool s6,.int .u64 x6,.int .u64 y6,.pointer p6] 27)):=(But.refl _ _).alloc _
 have B3:=af (((ae B2).trans' hb3).trans' bA)
 have X23:=af ((ae X22).but (hb3.trans' bA))
 have F53:=af ((ae F5).but (hb3.trans' bA))
 have K53:=af (((ae K5).but hb3 (by simp)).but bA (by simp))
 have F6:=af (hf.but bA)
 have K6:Hid (P4 (w3.alloc (.cells #[.bool s6,.int .u64 x6,.int .u64 y6,.pointer p6] 27)) w3.heap.size s6 x6 y6 p6):=⟨by simp,by simp,by simp,by simp⟩
 clear hb3 hf M2 B2 X22 F5 K5 bA
 go_wp2
 generalize w3.heap.size=g6 at *
 generalize w3.alloc (.cells #[.bool s6,.int .u64 x6,.int .u64 y6,.pointer p6] 27)=V3 at *
 obtain⟨⟨t2,a2,b2,q2,c2,-⟩,z2⟩:=ae X23
 refine zin 6 _ _ V3 g2 g5 g6 (A*A) (S-A*A) s6 x6 y6 p6 s5 x5 y5 p5 (by simp) (by simp[Act.eval]) (by simp[Act.eval]) (by simp[Act.eval]) (ae K6) (ae K53) (fun k hk=>?_) z2 (fun W hb=>ae MU W _ ((ae F53).but hb)) (fun W y hb hy=>ae SB W _ _ ((ae F6).but hb) hy) ?_
 ·(
 have:k=0∨k=1∨k=2∨k=3:=by omega
 rcases this with rfl|rfl|rfl|rfl
 ·exact⟨_,c2.1⟩
 ·exact⟨_,c2.2.1⟩
 ·exact⟨_,c2.2.2.1⟩
 ·exact⟨_,c2.2.2.2⟩)
 intro za zb w4 hH
 simp only[bj,List.foldl_cons,List.foldl_nil,Act.put,List.setIfInBounds_toArray,List.set_cons_zero,List.set_cons_succ]
 rw[zzd]
 obtain⟨s,x,y,p⟩:=zb
 dsimp only
 have P2:=c2.but hH.mem (by simp)
 have hP:=ax w4 g2 s x y p
 obtain⟨m0,m1,m2,m3⟩:=j6 w4 g2 s x y p P2
 have hF:Hid (But [] w (qw w4 g2 s x y p)):=((ae B3).trans' hH.mem).trans hP (fun x hx=>by simp at hx;subst hx;exact .inr (by omega))
 have hff:=af ((hH.f4 rfl).over P2.1 hP)
 clear hP P2 hH c2 z2 X23 F6 K6 F53 K53 B3 MU SB
 generalize qw w4 g2 s x y p=F at *
 go_wp2
 exact bodyPost_ret (v:=.tuple #[.agg #[.bool s,.int .u64 x,.int .u64 y,.pointer p],.nilIface]) (by simp[results,results40,go_sem,m0,m1,m2,m3]) rfl ⟨.inr ⟨rfl,_,_,_,_,rfl,ae hff⟩,ae hF⟩)
 ·(
 rw[if_neg h0]
 obtain⟨⟨t2,a2,b2,q2,⟨c0,c1,c2,c3⟩,-⟩,z2⟩:=ae X21
 have P2:Hid (P4 w1 g2 t2 a2 b2 q2):=⟨c0,c1,c2,c3⟩
 go_wp2
 have hP:=ax w1 g2 false 0 0 none
 obtain⟨m0,m1,m2,m3⟩:=j6 w1 g2 false 0 0 none (ae P2)
 have hF:But [] w (qw w1 g2 false 0 0 none):=(ae B1).trans hP (fun x hx=>by simp at hx;subst hx;exact .inr (by omega))
 change bodyPost _ _ _ _ _ (qw w1 g2 false 0 0 none)
 generalize qw w1 g2 false 0 0 none=F at *
 exact bodyPost_ret (v:=.tuple #[.agg #[.bool false,.int .u64 0,.int .u64 0,.pointer none],.iface 33 (.int .i64 ce)]) (by simp[results,results40,go_sem,m0,m1,m2,m3]) rfl ⟨.inl ⟨h0,rfl⟩,hF⟩))
end Go.Proofs.YtagmkkiagjmimaaGreatDoor
