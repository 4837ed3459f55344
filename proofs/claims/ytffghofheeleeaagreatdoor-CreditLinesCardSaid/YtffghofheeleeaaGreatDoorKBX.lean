/- Single operations, boxes that hold fract -/
import Derived.Test.YtffghofheeleeaaGreatDoorKF3
namespace Go.Proofs.YtffghofheeleeaaGreatDoor
open Go.Proofs.Tryz
open Go.RowKit
set_option maxHeartbeats 8000000
set_option maxRecDepth 100000
theorem oq (a:Act) (w:World) (t1 t2:Nat) (u:TypeId) (ps:String) (ed:Array Edge) (g:Nat) (s:Bool) (x y:Int) (p:Option Addr) {s':Bool} {x' y':Int} {p':Option Addr} (h1:a.eval (.tmp t1)=.pointer (some ⟨g,0,none⟩)) (h2:a.eval (.tmp t2)=.agg #[.bool s,.int .u64 x,.int .u64 y,.pointer p]) (hc:P4 w g s' x' y' p') (fz:∀ j,w.frozen? ⟨g,j,none⟩=false) :
  (execOp a.eval { dst:=none,op:=Op.store 27 (.tmp t1) (.tmp t2),type:=u,pos:=ps,after:=ed,guard:=none }).run prog w=.ok .skip ((((w.setCell ⟨g,0,none⟩ (.bool s)).setCell ⟨g,1,none⟩ (.int .u64 x)).setCell ⟨g,2,none⟩ (.int .u64 y)).setCell ⟨g,3,none⟩ (.pointer p)):=by
 obtain⟨c0,c1,c2,c3⟩:=hc
 unfold execOp
 simp only[h1,h2]
 go_simp
def jk (w:World) (g:Nat) (s:Bool) (x y:Int) (p:Option Addr):World:=(((w.setCell ⟨g,0,none⟩ (.bool s)).setCell ⟨g,1,none⟩ (.int .u64 x)).setCell ⟨g,2,none⟩ (.int .u64 y)).setCell ⟨g,3,none⟩ (.pointer p)
theorem aw (w:World) (g:Nat) (s:Bool) (x y:Int) (p:Option Addr):But [g] w (jk w g s x y p):=(((((But.refl [g] w).setCell (.inl (by simp)) _).setCell (.inl (by simp)) _).setCell (.inl (by simp)) _).setCell (.inl (by simp)) _)
theorem wu (w:World) (g:Nat) (s:Bool) (x y:Int) (p:Option Addr) {s':Bool} {x' y':Int} {p':Option Addr} (hc:P4 w g s' x' y' p'):P4 (jk w g s x y p) g s x y p:=by
 obtain⟨h1,-⟩:=set4_all w g (.bool s) (.int .u64 x) (.int .u64 y) (.pointer p) (by rw[hc.1];rfl) (by rw[hc.2.1];rfl) (by rw[hc.2.2.1];rfl) (by rw[hc.2.2.2];rfl)
 exact⟨h1 0 (by omega),h1 1 (by omega),h1 2 (by omega),h1 3 (by omega)⟩
theorem put4_fz (w:World) (g:Nat) (s:Bool) (x y:Int) (p:Option Addr) (b j:Nat):(jk w g s x y p).frozen? ⟨b,j,none⟩=w.frozen? ⟨b,j,none⟩:=by
 unfold jk
 simp only[World.frozen?_setCell]
def calmOps (ops:Array Oper):Bool:=(List.range ops.size).all fun i=>match ops[i]? with
 | some o=>o.guard.isNone && (match o.op with | .defer _=>false | _=>true)
 | none=>true
theorem zbj {ops:Array Oper} (h:calmOps ops=true):∀ (i:Nat) (o:Oper),ops[i]? = some o→o.guard=none∧∀ c,o.op≠.defer c:=fun i o ho=>by
 have hi:i<ops.size:=(Array.getElem?_eq_some_iff.1 ho).1
 unfold calmOps at h
 rw[List.all_eq_true] at h
 have h1:=h i (List.mem_range.2 hi)
 simp only[ho,Bool.and_eq_true,Option.isNone_iff_eq_none] at h1
 exact⟨h1.1,fun c e=>by rw[e] at h1;simp at h1⟩
theorem l9 {ops:Array Oper} {ps:List (Nat × Nat)} (h:uj ops ps=true) {i:Nat} {o:Oper} (ho:ops[i]? = some o) (R:Nat→Prop) (hdep:∀ e ∈ o.after,Region.binds .any e=true→R e.on) (j:Nat) (hij:(i,j) ∈ ps):R j:=by
 obtain⟨o',ho',ed,hed,hbi,rfl⟩:=nk h i j hij
 rw[ho] at ho'
 obtain rfl:=Option.some.inj ho'
 exact hdep ed hed hbi
def az (w:World) (g:Nat) (f:Rat):Prop:=(∃ s x y p,P4 w g s x y p∧am w (.agg #[.bool s,.int .u64 x,.int .u64 y,.pointer p]) f)∧∀ j,w.frozen? ⟨g,j,none⟩=false
theorem az.but {A B:World} {g:Nat} {f:Rat} (h:az A g f) (hb:But [] A B):az B g f:=by
 obtain⟨⟨s,x,y,p,h1,h2⟩,h3⟩:=h
 have hl:g<A.heap.size:=ai h1.1
 exact⟨⟨s,x,y,p,h1.but hb (by simp),h2.but hb⟩,fun j=>(hb.frozen (p:=⟨g,j,none⟩) hl (by simp)).trans (h3 j)⟩
theorem az.beside {A B:World} {g:Nat} {f:Rat} {l:List Nat} (h:az A g f) (hb:But l A B) (hn:g ∉ l) (hc:∀ g ∈ l,∃ s,A.cell? ⟨g,0,none⟩=some (.bool s)):az B g f:=by
 obtain⟨⟨s,x,y,p,h1,h2⟩,h3⟩:=h
 have hl:g<A.heap.size:=ai h1.1
 exact⟨⟨s,x,y,p,h1.but hb hn,h2.beside hb hc⟩,fun j=>(hb.frozen (p:=⟨g,j,none⟩) hl hn).trans (h3 j)⟩
theorem az.put {w:World} {g:Nat} {f f':Rat} (h:az w g f) {s:Bool} {x y:Int} {p:Option Addr} (hf:am w (.agg #[.bool s,.int .u64 x,.int .u64 y,.pointer p]) f'):az (jk w g s x y p) g f':=by
 obtain⟨⟨s0,x0,y0,p0,h1,h2⟩,h3⟩:=h
 exact⟨⟨s,x,y,p,wu w g s x y p h1,hf.over h1.1 (aw w g s x y p)⟩,fun j=>(put4_fz w g s x y p g j).trans (h3 j)⟩
theorem az.new (w:World) (s:Bool) (x y:Int) (p:Option Addr) (f:Rat) (t:TypeId) (h:am w (.agg #[.bool s,.int .u64 x,.int .u64 y,.pointer p]) f):az (w.alloc (.cells #[.bool s,.int .u64 x,.int .u64 y,.pointer p] t)) w.heap.size f :=
 ⟨⟨s,x,y,p,⟨by simp,by simp,by simp,by simp⟩,h.but ((But.refl _ _).alloc _)⟩,fun j=>by simp⟩
theorem az.lt {w:World} {g:Nat} {f:Rat} (h:az w g f):g<w.heap.size:=by
 obtain⟨⟨s,x,y,p,h1,-⟩,-⟩:=h
 exact ai h1.1
theorem az.bool {w:World} {g:Nat} {f:Rat} (h:az w g f):∃ s,w.cell? ⟨g,0,none⟩=some (.bool s):=by
 obtain⟨⟨s,x,y,p,h1,-⟩,-⟩:=h
 exact⟨s,h1.1⟩
theorem xk (w:World):am w (.agg #[.bool false,.int .u64 0,.int .u64 0,.pointer none]) 0:=.inl ⟨by decide,by decide,rfl⟩
theorem region_flow4 {P:Program} {id:Nat} {ops:Array Oper} {Q:Exit→Act→World→Prop} {base:Act} {W0:World} (hm:P.follows .mixedOrders=true)
  (hlow:∀ i o,ops[i]? = some o→∀ e ∈ o.after,Region.binds .any e=true→e.on<i)
  (hg:∀ (i:Nat) (o:Oper),ops[i]? = some o→o.guard=none)
  (H:World→Prop) (hH0:H W0.drew) (hHB:∀ w w',H w→But [] w w'→H w') (C:Nat→World→Value→Prop) (T:Nat→Nat) (m q ka:Nat) (hka:ka<m) (St:World→Value→Prop) (hsz:ops.size=m+1)
  (hinj:∀ i j,i<m→j<m→T i=T j→i=j) (hT:∀ i,i<m→T i<base.tmps.size)
  (hC:∀ i w w' v,i<m→C i w v→But [] w w'→C i w' v) (hCq:∀ w v,C q w v) (hSt:∀ w w' v,St w v→But [] w w'→St w' v)
  (hall:∀ i,i<m→∃ o,ops[m]? = some o∧∃ e ∈ o.after,Region.binds .any e=true∧e.on=i)
  (hqk:∃ o,ops[q]? = some o∧∃ e ∈ o.after,Region.binds .any e=true∧e.on=ka)
  (hstep:∀ (i:Nat) (o:Oper) (a:Act) (w:World) (K:Act→World→Prop),i<m→i≠q→ops[i]? = some o→H w→(∀ t,(∀ j,j<m→t≠T j)→a.eval (.tmp t)=base.eval (.tmp t))→(∀ e ∈ o.after,Region.binds .any e=true→C e.on w (a.eval (.tmp (T e.on))))→(∀ v w',But [] w w'→C i w' v→K (a.put (some (T i)) v) w')→o.wp P a w K Q)
  (hmute:∀ (o:Oper) (a:Act) (w:World) (K:Act→World→Prop),ops[q]? = some o→H w→(∀ t,(∀ j,j<m→t≠T j)→a.eval (.tmp t)=base.eval (.tmp t))→(∀ e ∈ o.after,Region.binds .any e=true→C e.on w (a.eval (.tmp (T e.on))))→(∀ w',H w'→(∀ j,j<m→∀ u,C j w u→C j w' u)→St w' (a.eval (.tmp (T ka)))→K a w')→o.wp P a w K Q)
  (Fin:Act→World→Prop)
  (hlast:∀ (d:Nat→Bool) (o:Oper) (a:Act) (w:World) (K:Act→World→Prop),ops[m]? = some o→(∀ i,i<m→d i=true)→zcz base (fun _ w=>H w) C T m d a w→St w (a.eval (.tmp (T ka)))→(∀ a' w',Fin a' w'→K a' w')→o.wp P a w K Q)
  (hend:∀ a w,Fin a w→Q .normal a w) (hqm:q<m) :
  (Code.region id ops true).wp P Q base W0:=by
 have wpo:∀ i o a w (K:Act→World→Prop),ops[i]? = some o→o.wp P a w K Q→wpOp P ops Q i K a w:=fun i o a w K ho h=>by
  unfold wpOp
  simp only[ho,Region.wanted,hg i o ho,if_true]
  exact .inl h
 refine zbs hm hlow (fun d a w=>if d m=true then (Fin a w∧∀ i,i<m→d i=true) else (zcz base (fun _ w=>H w) C T m d a w∧(d q=true→d ka=true∧St w (a.eval (.tmp (T ka)))))) ?_ ?_ ?_
 ·simp only[Bool.false_eq_true,if_false]
  exact⟨⟨hH0,rfl,rfl,fun _ _=>rfl,fun _ _ h=>by simp at h⟩,fun h=>by simp at h⟩
 ·intro d a w hd h
  rw[if_pos (hd m (by omega))] at h
  exact hend a w h.1
 ·intro d i o a w ho hdi hdep h
  refine wpo i o a w _ ho ?_
  have hi:i<m+1:=by rw[← hsz];exact (Array.getElem?_eq_some_iff.1 ho).1
  by_cases e:i=m
  ·subst e
   rw[if_neg (by rw[hdi];simp)] at h
   have hd:∀ j,j<i→d j=true:=fun j hj=>by
    obtain⟨o',ho',ed,he,hb,rfl⟩:=hall j hj
    rw[ho] at ho'
    obtain rfl:=Option.some.inj ho'
    exact hdep ed he hb
   refine hlast d o a w _ ho hd h.1 (h.2 (hd q hqm)).2 (fun a' w' hf=>?_)
   rw[if_pos (yt d i)]
   exact⟨hf,fun j hj=>by rw[jg d (by omega)];exact hd j hj⟩
  ·have him:i<m:=by omega
   by_cases hdm:d m=true
   ·exfalso
    rw[if_pos hdm] at h
    rw[h.2 i him] at hdi
    simp at hdi
   ·rw[if_neg hdm] at h
    obtain⟨h,hs⟩:=h
    have hdp:=fun (ed:Edge) (he:ed ∈ o.after) (hb:Region.binds .any ed=true)=>h.has _ (show ed.on<m by have:=hlow i o ho ed he hb;omega) (hdep ed he hb)
    by_cases eq:i=q
    ·subst eq
     refine hmute o a w _ ho h.mem (fun t ht=>h.eval t ht) hdp (fun w' hB hCw hSw=>?_)
     rw[if_neg (by rw[jg d (Ne.symm e)];exact hdm)]
     refine⟨⟨hB,h.size,h.defers,h.rest,fun j hj hd=>?_⟩,fun _=>?_⟩
     ·by_cases ej:j=i
      ·rw[ej];exact hCq _ _
      ·rw[jg d ej] at hd
       exact hCw j hj _ (h.has j hj hd)
     ·obtain⟨o',ho',ed,he,hb,ek⟩:=hqk
      rw[ho] at ho'
      obtain rfl:=Option.some.inj ho'
      have hk:=hdep ed he hb
      rw[ek] at hk
      have hne:ka≠i:=fun e2=>by rw[e2,hdi] at hk;simp at hk
      exact⟨by rw[jg d hne];exact hk,hSw⟩
    ·refine hstep i o a w _ him eq ho h.mem (fun t ht=>h.eval t ht) hdp (fun v w' hB hv=>?_)
     rw[if_neg (by rw[jg d (Ne.symm e)];exact hdm)]
     refine⟨h.next hinj hT i him v w' (hHB _ _ h.mem hB) (fun j hj _ u hu=>hC j w w' u hj hu hB) hv,fun hq=>?_⟩
     rw[jg d (Ne.symm eq)] at hq
     obtain⟨h1,h2⟩:=hs hq
     have hne:ka≠i:=fun e2=>by rw[e2,hdi] at h1;simp at h1
     refine⟨by rw[jg d hne];exact h1,?_⟩
     rw[at_ne a (T i) (T ka) v (fun e2=>hne (hinj ka i hka him e2))]
     exact hSt w w' _ h2 hB
theorem region_flow3 {P:Program} {id:Nat} {ops:Array Oper} {Q:Exit→Act→World→Prop} {base:Act} {W0:World} (hm:P.follows .mixedOrders=true)
  (hlow:∀ i o,ops[i]? = some o→∀ e ∈ o.after,Region.binds .any e=true→e.on<i)
  (hg:∀ (i:Nat) (o:Oper),ops[i]? = some o→o.guard=none)
  (C:Nat→World→Value→Prop) (T:Nat→Nat) (m q ka:Nat) (hka:ka<m) (St:World→Value→Prop) (hsz:ops.size=m+1)
  (hinj:∀ i j,i<m→j<m→T i=T j→i=j) (hT:∀ i,i<m→T i<base.tmps.size)
  (hC:∀ i w w' v,i<m→C i w v→But [] w w'→C i w' v) (hCq:∀ w v,C q w v) (hSt:∀ w w' v,St w v→But [] w w'→St w' v)
  (hall:∀ i,i<m→∃ o,ops[m]? = some o∧∃ e ∈ o.after,Region.binds .any e=true∧e.on=i)
  (hqk:∃ o,ops[q]? = some o∧∃ e ∈ o.after,Region.binds .any e=true∧e.on=ka)
  (hstep:∀ (i:Nat) (o:Oper) (a:Act) (w:World) (K:Act→World→Prop),i<m→i≠q→ops[i]? = some o→But [] W0.drew w→(∀ t,(∀ j,j<m→t≠T j)→a.eval (.tmp t)=base.eval (.tmp t))→(∀ e ∈ o.after,Region.binds .any e=true→C e.on w (a.eval (.tmp (T e.on))))→(∀ v w',But [] w w'→C i w' v→K (a.put (some (T i)) v) w')→o.wp P a w K Q)
  (hmute:∀ (o:Oper) (a:Act) (w:World) (K:Act→World→Prop),ops[q]? = some o→But [] W0.drew w→(∀ t,(∀ j,j<m→t≠T j)→a.eval (.tmp t)=base.eval (.tmp t))→(∀ e ∈ o.after,Region.binds .any e=true→C e.on w (a.eval (.tmp (T e.on))))→(∀ w',But [] W0.drew w'→(∀ j,j<m→∀ u,C j w u→C j w' u)→St w' (a.eval (.tmp (T ka)))→K a w')→o.wp P a w K Q)
  (Fin:Act→World→Prop)
  (hlast:∀ (d:Nat→Bool) (o:Oper) (a:Act) (w:World) (K:Act→World→Prop),ops[m]? = some o→(∀ i,i<m→d i=true)→zcz base (fun _ w=>But [] W0.drew w) C T m d a w→St w (a.eval (.tmp (T ka)))→(∀ a' w',Fin a' w'→K a' w')→o.wp P a w K Q)
  (hend:∀ a w,Fin a w→Q .normal a w) (hqm:q<m) :
  (Code.region id ops true).wp P Q base W0 :=
 region_flow4 hm hlow hg (fun w=>But [] W0.drew w) (But.refl _ _) (fun _ _ h hb=>h.trans' hb) C T m q ka hka St hsz hinj hT hC hCq hSt hall hqk hstep hmute Fin hlast hend hqm
set_option linter.unusedVariables false
def qi (f:Rat) (w:World) (v:Value):Prop:=∃ u,v=.tuple #[u,.nilIface]∧am w u f
theorem qi.but {f:Rat} {w w':World} {v:Value} (h:qi f w v) (hb:But [] w w'):qi f w' v:=by
 obtain⟨u,e,hu⟩:=h
 exact⟨u,e,hu.but hb⟩
theorem put4_loose (w:World) (g:Nat) (s:Bool) (x y:Int) (p:Option Addr) (q:Addr):(jk w g s x y p).frozen? q=w.frozen? q:=by
 unfold jk
 simp only[World.frozen?_setCell]
def xu (B:Nat) (w:World) (v:Value):Prop:=∃ b,v=.pointer (some ⟨b,0,none⟩)∧B≤b∧(∃ s x y p,P4 w b s x y p)∧∀ j,w.frozen? ⟨b,j,none⟩=false
theorem xu.but {B:Nat} {w w':World} {v:Value} (h:xu B w v) (hb:But [] w w'):xu B w' v:=by
 obtain⟨b,e,h1,⟨s,x,y,p,h2⟩,h3⟩:=h
 have hl:b<w.heap.size:=ai h2.1
 exact⟨b,e,h1,⟨s,x,y,p,h2.but hb (by simp)⟩,fun j=>(hb.frozen (p:=⟨b,j,none⟩) hl (by simp)).trans (h3 j)⟩
theorem xu.put {B:Nat} {w:World} {v:Value} {g:Nat} {s0:Bool} {x0 y0:Int} {p0:Option Addr} (h:xu B w v) (hg:P4 w g s0 x0 y0 p0) (s':Bool) (x' y':Int) (p':Option Addr):xu B (jk w g s' x' y' p') v:=by
 obtain⟨b,e,h1,⟨s,x,y,p,h2⟩,h3⟩:=h
 refine⟨b,e,h1,?_,fun j=>by rw[put4_loose];exact h3 j⟩
 by_cases eb:b=g
 ·subst eb
  exact⟨s',x',y',p',wu w b s' x' y' p' hg⟩
 ·exact⟨s,x,y,p,h2.but (aw w g s' x' y' p') (by simpa using eb)⟩
theorem qi.put {f:Rat} {w:World} {v:Value} {g:Nat} {s0:Bool} {x0 y0:Int} {p0:Option Addr} (h:qi f w v) (hg:P4 w g s0 x0 y0 p0) (s':Bool) (x' y':Int) (p':Option Addr):qi f (jk w g s' x' y' p') v:=by
 obtain⟨u,e,hu⟩:=h
 exact⟨u,e,hu.over hg.1 (aw w g s' x' y' p')⟩
def Stored (B:Nat) (f:Rat) (w:World) (v:Value):Prop:=∃ b s x y p,v=.pointer (some ⟨b,0,none⟩)∧B≤b∧P4 w b s x y p∧am w (.agg #[.bool s,.int .u64 x,.int .u64 y,.pointer p]) f
theorem Stored.but {B:Nat} {f:Rat} {w w':World} {v:Value} (h:Stored B f w v) (hb:But [] w w'):Stored B f w' v:=by
 obtain⟨b,s,x,y,p,e,h1,h2,h3⟩:=h
 exact⟨b,s,x,y,p,e,h1,h2.but hb (by simp),h3.but hb⟩
theorem run_as (a:Act) (w:World) (d t:Nat) (u:TypeId) (ps:String) (ed:Array Edge) (gd:Option (Nat × Bool)) (N:Value) (h:a.eval (.tmp t)=N) :
  (execOp a.eval { dst:=some d,op:=Op.assign (.tmp t),type:=u,pos:=ps,after:=ed,guard:=gd }).run prog w=.ok (.value N) w:=by
 unfold execOp
 simp only[h]
 go_simp
theorem run_alloc4 (a:Act) (w:World) (d:Nat) (u:TypeId) (ps:String) (ed:Array Edge) (gd:Option (Nat × Bool)) :
  (execOp a.eval { dst:=some d,op:=Op.alloc 27,type:=u,pos:=ps,after:=ed,guard:=gd }).run prog w=.ok (.value (.pointer (some ⟨w.heap.size,0,none⟩))) (w.alloc (.cells #[.bool false,.int .u64 0,.int .u64 0,.pointer none] 27)):=by
 unfold execOp
 go_simp
theorem bp (a:Act) (w:World) (d t:Nat) (u:TypeId) (ps:String) (ed:Array Edge) (gd:Option (Nat × Bool)) (N:Value) (h:a.eval (.tmp t)=N) :
  (execOp a.eval { dst:=some d,op:=Op.move (.tmp t),type:=u,pos:=ps,after:=ed,guard:=gd }).run prog w=.ok (.value N) w:=by
 unfold execOp
 simp only[h]
 go_simp
theorem zgf (a:Act) (w:World) (d t1 k:Nat) (u:TypeId) (ps:String) (ed:Array Edge) (gd:Option (Nat × Bool)) (xs:Array Value) (v:Value) (h1:a.eval (.tmp t1)=.tuple xs) (h2:xs[k]? = some v) :
  (execOp a.eval { dst:=some d,op:=Op.extract (.tmp t1) k,type:=u,pos:=ps,after:=ed,guard:=gd }).run prog w=.ok (.value v) w:=by
 unfold execOp
 simp only[h1]
 go_simp
theorem zdz (a:Act) (w:World) (d t:Nat) (u:TypeId) (ps:String) (ed:Array Edge) (gd:Option (Nat × Bool)) (N:Value) (h:a.eval (.tmp t)=N) :
  (execOp a.eval { dst:=some d,op:=Op.assign (.tmp t),type:=u,pos:=ps,after:=ed,guard:=gd }).run prog w=.ok (.value N) w:=by
 unfold execOp
 simp only[h]
 go_simp
abbrev FZ:=Bool × Int × Int × Option Addr
theorem run_oneK (a:Act) (w:World) (d:Nat) (u:TypeId) (ps:String) (ed:Array Edge) (gd:Option (Nat × Bool)) (n:Int) :
  (execOp a.eval { dst:=some d,op:=Op.call { callee:=Callee.value (Operand.func 71),args:=#[Operand.const (Value.int IntKind.i64 n)],argTypes:=#[3] },type:=u,pos:=ps,after:=ed,guard:=gd }).run prog w=.ok (.enter 71 #[.int .i64 n]) w:=by
 unfold execOp
 go_simp
theorem run_wholeK (a:Act) (w:World) (d t1:Nat) (u:TypeId) (ps:String) (ed:Array Edge) (gd:Option (Nat × Bool)) (x1:Value) (h1:a.eval (.tmp t1)=x1) :
  (execOp a.eval { dst:=some d,op:=Op.call { callee:=Callee.value (Operand.func 71),args:=#[Operand.tmp t1],argTypes:=#[3] },type:=u,pos:=ps,after:=ed,guard:=gd }).run prog w=.ok (.enter 71 #[x1]) w:=by
 unfold execOp
 go_simp
 rw[← h1]
 simp[Act.eval]
theorem run_divK (a:Act) (w:World) (d t1 t2:Nat) (u:TypeId) (ps:String) (ed:Array Edge) (gd:Option (Nat × Bool)) (x1 x2:Value) (h1:a.eval (.tmp t1)=x1) (h2:a.eval (.tmp t2)=x2) :
  (execOp a.eval { dst:=some d,op:=Op.call { callee:=Callee.value (Operand.func 119),args:=#[Operand.tmp t1,Operand.tmp t2],argTypes:=#[27,27] },type:=u,pos:=ps,after:=ed,guard:=gd }).run prog w=.ok (.enter 119 #[x1,x2]) w:=by
 unfold execOp
 go_simp
 rw[← h1,← h2]
 simp[Act.eval]
theorem run_subJ (a:Act) (w:World) (d t0 t1:Nat) (u:TypeId) (ps:String) (ed:Array Edge) (gd:Option (Nat × Bool)) (z0 z1:Value) (h0:a.eval (.tmp t0)=z0) (h1:a.eval (.tmp t1)=z1) :
  (execOp a.eval { dst:=some d,op:=Op.call { callee:=Callee.value (Operand.func 31),args:=#[Operand.tmp t0,Operand.tmp t1],argTypes:=#[27,27] },type:=u,pos:=ps,after:=ed,guard:=gd }).run prog w=.ok (.enter 31 #[z0,z1]) w:=by
 unfold execOp
 go_simp
 rw[← h0,← h1]
 simp[Act.eval]
theorem zcj (a:Act) (w:World) (d t0:Nat) (u:TypeId) (ps:String) (ed:Array Edge) (gd:Option (Nat × Bool)) (z0:Value) (h0:a.eval (.tmp t0)=z0) :
  (execOp a.eval { dst:=some d,op:=Op.call { callee:=Callee.value (Operand.func 117),args:=#[Operand.tmp t0],argTypes:=#[27] },type:=u,pos:=ps,after:=ed,guard:=gd }).run prog w=.ok (.enter 117 #[z0]) w:=by
 unfold execOp
 go_simp
 rw[← h0]
 simp[Act.eval]
theorem run_quotJ (a:Act) (w:World) (d t0 t1:Nat) (u:TypeId) (ps:String) (ed:Array Edge) (gd:Option (Nat × Bool)) (z0 z1:Value) (h0:a.eval (.tmp t0)=z0) (h1:a.eval (.tmp t1)=z1) :
  (execOp a.eval { dst:=some d,op:=Op.call { callee:=Callee.value (Operand.func 63),args:=#[Operand.tmp t0,Operand.tmp t1],argTypes:=#[27,3] },type:=u,pos:=ps,after:=ed,guard:=gd }).run prog w=.ok (.enter 63 #[z0,z1]) w:=by
 unfold execOp
 go_simp
 rw[← h0,← h1]
 simp[Act.eval]
theorem run_restJ (a:Act) (w:World) (d t0:Nat) (u:TypeId) (ps:String) (ed:Array Edge) (gd:Option (Nat × Bool)) (z0:Value) (h0:a.eval (.tmp t0)=z0) :
  (execOp a.eval { dst:=some d,op:=Op.call { callee:=Callee.value (Operand.func 55),args:=#[Operand.tmp t0],argTypes:=#[27] },type:=u,pos:=ps,after:=ed,guard:=gd }).run prog w=.ok (.enter 55 #[z0]) w:=by
 unfold execOp
 go_simp
 rw[← h0]
 simp[Act.eval]
theorem run_nilJ (a:Act) (w:World) (d:Nat) (u:TypeId) (ps:String) (ed:Array Edge) (gd:Option (Nat × Bool)) :
  (execOp a.eval { dst:=some d,op:=Op.assign (Operand.const Value.nilIface),type:=u,pos:=ps,after:=ed,guard:=gd }).run prog w=.ok (.value .nilIface) w:=by
 unfold execOp
 go_simp
def opJa0:Oper:=⟨some 8,.load 27 (.tmp 2),27, "credit.go:99",#[],none⟩
def opJa1:Oper:=⟨some 9,.move (.tmp 1),3, "credit.go:99",#[],none⟩
def opJa2:Oper:=⟨some 10,.call { callee:=.value (.func 71),args:=#[.tmp 9],argTypes:=#[3] },27, "credit.go:99",#[⟨1,.data⟩],none⟩
def opJa3:Oper:=⟨some 11,.call { callee:=.value (.func 119),args:=#[.tmp 8,.tmp 10],argTypes:=#[27,27] },30, "credit.go:99",#[⟨0,.data⟩,⟨2,.data⟩,⟨2,.chain⟩],none⟩
def opJa4:Oper:=⟨some 7,.move (.tmp 11),30, "credit.go:99",#[⟨3,.data⟩],none⟩
def opJa5:Oper:=⟨some 12,.extract (.tmp 7) 0,27, "credit.go:99",#[⟨4,.data⟩],none⟩
def opJa6:Oper:=⟨some 13,.extract (.tmp 7) 1,29, "credit.go:99",#[⟨4,.data⟩,{ on:=8,ground:=.gcOnly Departure.lateStores }],none⟩
def opJa7:Oper:=⟨some 5,.alloc 27,0, "credit.go:99",#[],none⟩
def opJa8:Oper:=⟨none,.store 27 (.tmp 5) (.tmp 12),0, "credit.go:99",#[⟨7,.data⟩,⟨5,.data⟩,⟨3,.chain⟩,⟨0,.phase⟩,⟨1,.phase⟩,⟨2,.phase⟩,⟨3,.phase⟩,⟨4,.phase⟩,⟨5,.phase⟩,{ on:=6,ground:=.textOnly Departure.lateStores },⟨7,.phase⟩],none⟩
def opJa9:Oper:=⟨some 6,.assign (.tmp 13),29, "credit.go:99",#[⟨6,.data⟩,⟨8,.chain⟩,⟨0,.phase⟩,⟨1,.phase⟩,⟨2,.phase⟩,⟨3,.phase⟩,⟨4,.phase⟩,⟨5,.phase⟩,⟨6,.phase⟩,⟨7,.phase⟩,⟨8,.phase⟩],none⟩
def zcs:Array Oper:=#[opJa0,opJa1,opJa2,opJa3,opJa4,opJa5,opJa6,opJa7,opJa8,opJa9]
def zgv (i:Nat):Nat:=match i with
 | 0=>8
 | 1=>9
 | 2=>10
 | 3=>11
 | 4=>7
 | 5=>12
 | 6=>13
 | 7=>5
 | _=>6
def opJaC (B:Nat) (n:Int) (s1:Bool) (x1:Int) (y1:Int) (p1:Option Addr) (ws:Bool) (wx:Int) (f:Rat) (i:Nat) (w:World) (v:Value):Prop:=match i with
 | 0=>v=.agg #[.bool s1,.int .u64 x1,.int .u64 y1,.pointer p1]
 | 1=>v=.int .i64 n
 | 2=>v=.agg #[.bool ws,.int .u64 wx,.int .u64 0,.pointer none]
 | 3=>qi (f) w v
 | 4=>qi (f) w v
 | 5=>am w v f
 | 6=>v=.nilIface
 | 7=>xu B w v
 | _=>True
theorem opJaC_but {B:Nat} {n:Int} {s1:Bool} {x1:Int} {y1:Int} {p1:Option Addr} {ws:Bool} {wx:Int} {f:Rat} {i:Nat} {w w':World} {v:Value} (h:opJaC B n s1 x1 y1 p1 ws wx f i w v) (hi:i<9) (hb:But [] w w'):opJaC B n s1 x1 y1 p1 ws wx f i w' v:=by
 have:i=0∨i=1∨i=2∨i=3∨i=4∨i=5∨i=6∨i=7∨i=8:=by omega
 rcases this with rfl|rfl|rfl|rfl|rfl|rfl|rfl|rfl|rfl
 ·exact (show v=.agg #[.bool s1,.int .u64 x1,.int .u64 y1,.pointer p1] from h)
 ·exact (show v=.int .i64 n from h)
 ·exact (show v=.agg #[.bool ws,.int .u64 wx,.int .u64 0,.pointer none] from h)
 ·exact qi.but (show qi (f) w v from h) hb
 ·exact qi.but (show qi (f) w v from h) hb
 ·exact am.but (show am w v f from h) hb
 ·exact (show v=.nilIface from h)
 ·exact xu.but (show xu B w v from h) hb
 ·exact trivial
theorem opJaC_put {B:Nat} {n:Int} {s1:Bool} {x1:Int} {y1:Int} {p1:Option Addr} {ws:Bool} {wx:Int} {f:Rat} {i:Nat} {w:World} {v:Value} {g0:Nat} {s0:Bool} {x0 y0:Int} {p0:Option Addr} (hg:P4 w g0 s0 x0 y0 p0) (s':Bool) (x' y':Int) (p':Option Addr) (h:opJaC B n s1 x1 y1 p1 ws wx f i w v) (hi:i<9):opJaC B n s1 x1 y1 p1 ws wx f i (jk w g0 s' x' y' p') v:=by
 have:i=0∨i=1∨i=2∨i=3∨i=4∨i=5∨i=6∨i=7∨i=8:=by omega
 rcases this with rfl|rfl|rfl|rfl|rfl|rfl|rfl|rfl|rfl
 ·exact (show v=.agg #[.bool s1,.int .u64 x1,.int .u64 y1,.pointer p1] from h)
 ·exact (show v=.int .i64 n from h)
 ·exact (show v=.agg #[.bool ws,.int .u64 wx,.int .u64 0,.pointer none] from h)
 ·exact qi.put (show qi (f) w v from h) hg _ _ _ _
 ·exact qi.put (show qi (f) w v from h) hg _ _ _ _
 ·exact am.over (show am w v f from h) hg.1 (aw _ _ _ _ _ _)
 ·exact (show v=.nilIface from h)
 ·exact xu.put (show xu B w v from h) hg _ _ _ _
 ·exact trivial
theorem opJaT_inj:∀ i j,i<9→j<9→zgv i=zgv j→i=j:=fun i j hi hj=>(by decide:∀ i,i<9→∀ j,j<9→zgv i=zgv j→i=j) i hi j hj
theorem quot_region (id:Nat) (Q:Exit→Act→World→Prop) (base:Act) (W0:World) (B:Nat) (n:Int) (s1:Bool) (x1:Int) (y1:Int) (p1:Option Addr) (ws:Bool) (wx:Int) (f:Rat) (hs:13<base.tmps.size) (g2:Nat) (hBW:B=W0.heap.size) (e2:base.eval (.tmp 2)=.pointer (some ⟨g2,0,none⟩)) (e1:base.eval (.tmp 1)=.int .i64 n)
  (c1:P4 W0 g2 s1 x1 y1 p1)
  (WH:∀ w,Calls prog 71 #[.int .i64 n] w fun e w'=>e=.returned (.agg #[.bool ws,.int .u64 wx,.int .u64 0,.pointer none])∧But [] w w')
  (DI:∀ w,But [] W0 w→Calls prog 119 #[.agg #[.bool s1,.int .u64 x1,.int .u64 y1,.pointer p1],.agg #[.bool ws,.int .u64 wx,.int .u64 0,.pointer none]] w fun e w'=>∃ v,e=.returned (.tuple #[v,.nilIface])∧am w' v f∧But [] w w')
  (hQ:∀ w1 bn v3 v4 v5 v8 s' x' y' p',But [] W0 w1→B≤bn→P4 w1 bn s' x' y' p'→am w1 (.agg #[.bool s',.int .u64 x',.int .u64 y',.pointer p']) (f)→Q .normal (bi base [(8,.agg #[.bool s1,.int .u64 x1,.int .u64 y1,.pointer p1]),(9,.int .i64 n),(10,.agg #[.bool ws,.int .u64 wx,.int .u64 0,.pointer none]),(11,v3),(7,v4),(12,v5),(13,.nilIface),(5,.pointer (some ⟨bn,0,none⟩)),(6,v8),(6,.nilIface)]) w1) :
  (Code.region id zcs true).wp prog Q base W0:=by
 have hdr:∀ {w},But [] W0.drew w→But [] W0 w:=fun h=>(But.refl _ _).drew.trans' h
 have hT:∀ i,i<9→zgv i<base.tmps.size:=fun i hi=>by
  have h:zgv i≤13:=by revert i;decide
  omega
 refine region_flow3 (by kernel_rfl) (ay (by kernel_rfl)) (fun i o ho=>(zbj (ops:=zcs) (by kernel_rfl) i o ho).1)
  (opJaC B n s1 x1 y1 p1 ws wx f) zgv 9 8 7 (by omega) (Stored B (f)) rfl opJaT_inj hT (fun i w w' v hi h hb=>opJaC_but h hi hb) (fun _ _=>trivial) (fun w w' v h hb=>h.but hb)
  (fun i hi=>?_) (nk (ops:=zcs) (ps:=[(8,7)]) (by kernel_rfl) 8 7 (by simp)) ?_ ?_ (fun a w=>∃ w1 bn v3 v4 v5 v8 s' x' y' p',a=bi base [(8,.agg #[.bool s1,.int .u64 x1,.int .u64 y1,.pointer p1]),(9,.int .i64 n),(10,.agg #[.bool ws,.int .u64 wx,.int .u64 0,.pointer none]),(11,v3),(7,v4),(12,v5),(13,.nilIface),(5,.pointer (some ⟨bn,0,none⟩)),(6,v8),(6,.nilIface)]∧w=w1∧But [] W0 w1∧B≤bn∧P4 w1 bn s' x' y' p'∧am w1 (.agg #[.bool s',.int .u64 x',.int .u64 y',.pointer p']) (f)) ?_ ?_ (by omega)
 ·exact nk (ops:=zcs) (ps:=[(9,0),(9,1),(9,2),(9,3),(9,4),(9,5),(9,6),(9,7),(9,8)]) (by kernel_rfl) 9 i (by
   have:i=0∨i=1∨i=2∨i=3∨i=4∨i=5∨i=6∨i=7∨i=8:=by omega
   rcases this with rfl|rfl|rfl|rfl|rfl|rfl|rfl|rfl|rfl <;> simp)
 ·intro i o a w K hi hiq ho hH he hdep hK
  have hD:=l9 (ps:=[(2,1),(3,0),(3,2),(4,3),(5,4),(6,4),(8,0),(8,1),(8,2),(8,3),(8,4),(8,5),(8,7)]) (by kernel_rfl) ho (fun j=>opJaC B n s1 x1 y1 p1 ws wx f j w (a.eval (.tmp (zgv j)))) hdep
  have hk:∀ v w',But [] w w'→opJaC B n s1 x1 y1 p1 ws wx f i w' v→K (a.put (some (zgv i)) v) w':=hK
  have e2':=(he 2 (fun j hj e=>absurd e.symm (by revert j;decide))).trans e2
  have e1':=(he 1 (fun j hj e=>absurd e.symm (by revert j;decide))).trans e1
  have:i=0∨i=1∨i=2∨i=3∨i=4∨i=5∨i=6∨i=7∨i=8:=by omega
  rcases this with rfl|rfl|rfl|rfl|rfl|rfl|rfl|rfl|rfl
  ·obtain rfl:=so (show zcs[0]? =some opJa0 from rfl) ho
   exact al (au a w _ _ _ _ _ _ g2 0 _ _ _ _ e2' (c1.but (hdr hH) (by simp))) (hk _ _ (But.refl _ _) rfl)
  ·obtain rfl:=so (show zcs[1]? =some opJa1 from rfl) ho
   exact al (bp a w _ _ _ _ _ _ _ e1') (hk _ _ (But.refl _ _) rfl)
  ·obtain rfl:=so (show zcs[2]? =some opJa2 from rfl) ho
   exact ax (run_wholeK a w _ _ _ _ _ _ _ (hD 1 (by simp))) (R:=fun w' v=>But [] w w'∧v=_) ((WH w).mono fun e w' ⟨he,hb⟩=>⟨_,he,hb,rfl⟩) (fun v w' hv=>hk v w' hv.1 hv.2)
  ·obtain rfl:=so (show zcs[3]? =some opJa3 from rfl) ho
   exact ax (run_divK a w _ _ _ _ _ _ _ _ _ (hD 0 (by simp)) (hD 2 (by simp))) (R:=fun w' v=>qi (f) w' v∧But [] w w') ((DI w (hdr hH)).mono fun e w' ⟨v,he,hf,hb⟩=>⟨_,he,⟨v,rfl,hf⟩,hb⟩) (fun v w' hv=>hk v w' hv.2 hv.1)
  ·obtain rfl:=so (show zcs[4]? =some opJa4 from rfl) ho
   exact al (bp a w _ _ _ _ _ _ _ rfl) (hk _ _ (But.refl _ _) (hD 3 (by simp)))
  ·obtain rfl:=so (show zcs[5]? =some opJa5 from rfl) ho
   obtain⟨u,eu,hu⟩:qi (f) w _:=(hD 4 (by simp))
   exact al (zgf a w _ _ _ _ _ _ _ _ u eu rfl) (hk _ _ (But.refl _ _) hu)
  ·obtain rfl:=so (show zcs[6]? =some opJa6 from rfl) ho
   obtain⟨u,eu,hu⟩:qi (f) w _:=(hD 4 (by simp))
   exact al (zgf a w _ _ _ _ _ _ _ _ .nilIface eu rfl) (hk _ _ (But.refl _ _) rfl)
  ·obtain rfl:=so (show zcs[7]? =some opJa7 from rfl) ho
   exact al (run_alloc4 a w _ _ _ _ _) (hk _ _ ((But.refl _ _).alloc _) ⟨w.heap.size,rfl,by rw[hBW];exact (hdr hH).size,⟨false,0,0,none,by simp,by simp,by simp,by simp⟩,fun j=>by simp⟩)
  ·exact absurd rfl hiq
 ·intro o a w K ho hH he hdep hK
  have hD:=l9 (ps:=[(8,7),(8,5)]) (by kernel_rfl) ho (fun j=>opJaC B n s1 x1 y1 p1 ws wx f j w (a.eval (.tmp (zgv j)))) hdep
  obtain rfl:=so (show zcs[8]? =some opJa8 from rfl) ho
  have cl:am w (a.eval (.tmp 12)) (f):=hD 5 (by simp)
  obtain⟨bn,eb,hb1,⟨s0,x0,y0,p0,hb2⟩,hb3⟩:xu B w (a.eval (.tmp 5)):=hD 7 (by simp)
  have cl':=cl
  obtain⟨x',y',p',ev,-⟩:=cl.agg
  rw[ev] at cl'
  exact ve (oq a w _ _ _ _ _ bn _ x' y' p' eb ev hb2 hb3) (hK _ (hH.trans (aw w bn _ x' y' p') (fun x hx=>by simp at hx;subst hx;exact .inr (by rw[hBW] at hb1;exact hb1))) (fun j hj u hu=>opJaC_put hb2 _ x' y' p' hu hj) ⟨bn,_,x',y',p',eb,hb1,wu w bn _ x' y' p' hb2,cl'.over hb2.1 (aw w bn _ x' y' p')⟩)
 ·intro dn o a w K ho hall h hst hK
  obtain rfl:=so (show zcs[9]? =some opJa9 from rfl) ho
  obtain⟨bn,s',x',y',p',eb,hb1,hb2,hb3⟩:=hst
  have eb:a.eval (.tmp 5)=.pointer (some ⟨bn,0,none⟩):=eb
  have ea:=h.puts hT (fun i=>match i with
   | 0=>.agg #[.bool s1,.int .u64 x1,.int .u64 y1,.pointer p1]
   | 1=>.int .i64 n
   | 2=>.agg #[.bool ws,.int .u64 wx,.int .u64 0,.pointer none]
   | 3=>a.eval (.tmp 11)
   | 4=>a.eval (.tmp 7)
   | 5=>a.eval (.tmp 12)
   | 6=>.nilIface
   | 7=>.pointer (some ⟨bn,0,none⟩)
   | _=>a.eval (.tmp 6)) (fun i hi=>by
   have hc:=h.has i hi (hall i hi)
   have:i=0∨i=1∨i=2∨i=3∨i=4∨i=5∨i=6∨i=7∨i=8:=by omega
   rcases this with rfl|rfl|rfl|rfl|rfl|rfl|rfl|rfl|rfl
   ·exact hc
   ·exact hc
   ·exact hc
   ·rfl
   ·rfl
   ·rfl
   ·exact hc
   ·exact eb
   ·rfl)
  have ea2:a=bi base [(8,.agg #[.bool s1,.int .u64 x1,.int .u64 y1,.pointer p1]),(9,.int .i64 n),(10,.agg #[.bool ws,.int .u64 wx,.int .u64 0,.pointer none]),(11,a.eval (.tmp 11)),(7,a.eval (.tmp 7)),(12,a.eval (.tmp 12)),(13,.nilIface),(5,.pointer (some ⟨bn,0,none⟩)),(6,a.eval (.tmp 6))]:=ea
  have ea3:a.put (some 6) (.nilIface)=bi base ([(8,.agg #[.bool s1,.int .u64 x1,.int .u64 y1,.pointer p1]),(9,.int .i64 n),(10,.agg #[.bool ws,.int .u64 wx,.int .u64 0,.pointer none]),(11,a.eval (.tmp 11)),(7,a.eval (.tmp 7)),(12,a.eval (.tmp 12)),(13,.nilIface),(5,.pointer (some ⟨bn,0,none⟩)),(6,a.eval (.tmp 6))]++[(6,.nilIface)]):=(congrArg (fun z:Act=>z.put (some 6) (.nilIface)) ea2).trans (zco _ _ _ _)
  have hev:a.eval (.tmp 13)=.nilIface:=h.has 6 (by omega) (hall 6 (by omega))
  exact al (run_as _ _ _ _ _ _ _ _ _ hev) (hK _ _ ⟨w,bn,a.eval (.tmp 11),a.eval (.tmp 7),a.eval (.tmp 12),a.eval (.tmp 6),s',x',y',p',ea3,rfl,hdr h.mem,hb1,hb2,hb3⟩)
 ·rintro a w ⟨w1,bn,v3,v4,v5,v8,s',x',y',p',rfl,rfl,h1,h2,h3,h4⟩
  exact hQ _ bn v3 v4 v5 v8 s' x' y' p' h1 h2 h3 h4
def opJb0:Oper:=⟨some 12,.load 27 (.tmp 2),27, "credit.go:73",#[],none⟩
def opJb1:Oper:=⟨some 13,.load 27 (.tmp 2),27, "credit.go:73",#[],none⟩
def opJb2:Oper:=⟨some 14,.load 27 (.tmp 3),27, "credit.go:73",#[],none⟩
def opJb3:Oper:=⟨some 15,.call { callee:=.value (.func 73),args:=#[.tmp 13,.tmp 14],argTypes:=#[27,27] },27, "credit.go:73",#[⟨1,.data⟩,⟨2,.data⟩],none⟩
def opJb4:Oper:=⟨some 16,.call { callee:=.value (.func 119),args:=#[.tmp 12,.tmp 15],argTypes:=#[27,27] },30, "credit.go:73",#[⟨0,.data⟩,⟨3,.data⟩,⟨3,.chain⟩],none⟩
def opJb5:Oper:=⟨some 11,.move (.tmp 16),30, "credit.go:73",#[⟨4,.data⟩],none⟩
def opJb6:Oper:=⟨some 17,.extract (.tmp 11) 0,27, "credit.go:73",#[⟨5,.data⟩],none⟩
def opJb7:Oper:=⟨some 18,.extract (.tmp 11) 1,29, "credit.go:73",#[⟨5,.data⟩,{ on:=9,ground:=.gcOnly Departure.lateStores }],none⟩
def opJb8:Oper:=⟨some 5,.alloc 27,0, "credit.go:73",#[],none⟩
def opJb9:Oper:=⟨none,.store 27 (.tmp 5) (.tmp 17),0, "credit.go:73",#[⟨8,.data⟩,⟨6,.data⟩,⟨4,.chain⟩,⟨0,.phase⟩,⟨1,.phase⟩,⟨2,.phase⟩,⟨3,.phase⟩,⟨4,.phase⟩,⟨5,.phase⟩,⟨6,.phase⟩,{ on:=7,ground:=.textOnly Departure.lateStores },⟨8,.phase⟩],none⟩
def opJb10:Oper:=⟨some 6,.assign (.tmp 18),29, "credit.go:73",#[⟨7,.data⟩,⟨9,.chain⟩,⟨0,.phase⟩,⟨1,.phase⟩,⟨2,.phase⟩,⟨3,.phase⟩,⟨4,.phase⟩,⟨5,.phase⟩,⟨6,.phase⟩,⟨7,.phase⟩,⟨8,.phase⟩,⟨9,.phase⟩],none⟩
def zbw:Array Oper:=#[opJb0,opJb1,opJb2,opJb3,opJb4,opJb5,opJb6,opJb7,opJb8,opJb9,opJb10]
def zgu (i:Nat):Nat:=match i with
 | 0=>12
 | 1=>13
 | 2=>14
 | 3=>15
 | 4=>16
 | 5=>11
 | 6=>17
 | 7=>18
 | 8=>5
 | _=>6
def opJbC (B:Nat) (s1:Bool) (x1:Int) (y1:Int) (p1:Option Addr) (s2:Bool) (x2:Int) (y2:Int) (p2:Option Addr) (f1:Rat) (f2:Rat) (i:Nat) (w:World) (v:Value):Prop:=match i with
 | 0=>v=.agg #[.bool s1,.int .u64 x1,.int .u64 y1,.pointer p1]
 | 1=>v=.agg #[.bool s1,.int .u64 x1,.int .u64 y1,.pointer p1]
 | 2=>v=.agg #[.bool s2,.int .u64 x2,.int .u64 y2,.pointer p2]
 | 3=>am w v (f1+f2)
 | 4=>qi (f1/(f1+f2)) w v
 | 5=>qi (f1/(f1+f2)) w v
 | 6=>am w v (f1/(f1+f2))
 | 7=>v=.nilIface
 | 8=>xu B w v
 | _=>True
theorem opJbC_but {B:Nat} {s1:Bool} {x1:Int} {y1:Int} {p1:Option Addr} {s2:Bool} {x2:Int} {y2:Int} {p2:Option Addr} {f1:Rat} {f2:Rat} {i:Nat} {w w':World} {v:Value} (h:opJbC B s1 x1 y1 p1 s2 x2 y2 p2 f1 f2 i w v) (hi:i<10) (hb:But [] w w'):opJbC B s1 x1 y1 p1 s2 x2 y2 p2 f1 f2 i w' v:=by
 have:i=0∨i=1∨i=2∨i=3∨i=4∨i=5∨i=6∨i=7∨i=8∨i=9:=by omega
 rcases this with rfl|rfl|rfl|rfl|rfl|rfl|rfl|rfl|rfl|rfl
 ·exact (show v=.agg #[.bool s1,.int .u64 x1,.int .u64 y1,.pointer p1] from h)
 ·exact (show v=.agg #[.bool s1,.int .u64 x1,.int .u64 y1,.pointer p1] from h)
 ·exact (show v=.agg #[.bool s2,.int .u64 x2,.int .u64 y2,.pointer p2] from h)
 ·exact am.but (show am w v (f1+f2) from h) hb
 ·exact qi.but (show qi (f1/(f1+f2)) w v from h) hb
 ·exact qi.but (show qi (f1/(f1+f2)) w v from h) hb
 ·exact am.but (show am w v (f1/(f1+f2)) from h) hb
 ·exact (show v=.nilIface from h)
 ·exact xu.but (show xu B w v from h) hb
 ·exact trivial
theorem opJbC_put {B:Nat} {s1:Bool} {x1:Int} {y1:Int} {p1:Option Addr} {s2:Bool} {x2:Int} {y2:Int} {p2:Option Addr} {f1:Rat} {f2:Rat} {i:Nat} {w:World} {v:Value} {g0:Nat} {s0:Bool} {x0 y0:Int} {p0:Option Addr} (hg:P4 w g0 s0 x0 y0 p0) (s':Bool) (x' y':Int) (p':Option Addr) (h:opJbC B s1 x1 y1 p1 s2 x2 y2 p2 f1 f2 i w v) (hi:i<10):opJbC B s1 x1 y1 p1 s2 x2 y2 p2 f1 f2 i (jk w g0 s' x' y' p') v:=by
 have:i=0∨i=1∨i=2∨i=3∨i=4∨i=5∨i=6∨i=7∨i=8∨i=9:=by omega
 rcases this with rfl|rfl|rfl|rfl|rfl|rfl|rfl|rfl|rfl|rfl
 ·exact (show v=.agg #[.bool s1,.int .u64 x1,.int .u64 y1,.pointer p1] from h)
 ·exact (show v=.agg #[.bool s1,.int .u64 x1,.int .u64 y1,.pointer p1] from h)
 ·exact (show v=.agg #[.bool s2,.int .u64 x2,.int .u64 y2,.pointer p2] from h)
 ·exact am.over (show am w v (f1+f2) from h) hg.1 (aw _ _ _ _ _ _)
 ·exact qi.put (show qi (f1/(f1+f2)) w v from h) hg _ _ _ _
 ·exact qi.put (show qi (f1/(f1+f2)) w v from h) hg _ _ _ _
 ·exact am.over (show am w v (f1/(f1+f2)) from h) hg.1 (aw _ _ _ _ _ _)
 ·exact (show v=.nilIface from h)
 ·exact xu.put (show xu B w v from h) hg _ _ _ _
 ·exact trivial
theorem opJbT_inj:∀ i j,i<10→j<10→zgu i=zgu j→i=j:=fun i j hi hj=>(by decide:∀ i,i<10→∀ j,j<10→zgu i=zgu j→i=j) i hi j hj
theorem own_region (id:Nat) (Q:Exit→Act→World→Prop) (base:Act) (W0:World) (B:Nat) (s1:Bool) (x1:Int) (y1:Int) (p1:Option Addr) (s2:Bool) (x2:Int) (y2:Int) (p2:Option Addr) (f1:Rat) (f2:Rat) (hs:18<base.tmps.size) (g2 g3:Nat) (hBW:B=W0.heap.size) (e2:base.eval (.tmp 2)=.pointer (some ⟨g2,0,none⟩)) (e3:base.eval (.tmp 3)=.pointer (some ⟨g3,0,none⟩))
  (c1:P4 W0 g2 s1 x1 y1 p1) (c2:P4 W0 g3 s2 x2 y2 p2)
  (AD:∀ w,But [] W0 w→Calls prog 73 #[.agg #[.bool s1,.int .u64 x1,.int .u64 y1,.pointer p1],.agg #[.bool s2,.int .u64 x2,.int .u64 y2,.pointer p2]] w fun e w'=>∃ v,e=.returned v∧am w' v (f1+f2)∧But [] w w')
  (DI:∀ w,But [] W0 w→∀ v,am w v (f1+f2)→Calls prog 119 #[.agg #[.bool s1,.int .u64 x1,.int .u64 y1,.pointer p1],v] w fun e w'=>∃ v,e=.returned (.tuple #[v,.nilIface])∧am w' v (f1/(f1+f2))∧But [] w w')
  (hQ:∀ w1 bn v3 v4 v5 v6 v9 s' x' y' p',But [] W0 w1→B≤bn→P4 w1 bn s' x' y' p'→am w1 (.agg #[.bool s',.int .u64 x',.int .u64 y',.pointer p']) (f1/(f1+f2))→Q .normal (bi base [(12,.agg #[.bool s1,.int .u64 x1,.int .u64 y1,.pointer p1]),(13,.agg #[.bool s1,.int .u64 x1,.int .u64 y1,.pointer p1]),(14,.agg #[.bool s2,.int .u64 x2,.int .u64 y2,.pointer p2]),(15,v3),(16,v4),(11,v5),(17,v6),(18,.nilIface),(5,.pointer (some ⟨bn,0,none⟩)),(6,v9),(6,.nilIface)]) w1) :
  (Code.region id zbw true).wp prog Q base W0:=by
 have hdr:∀ {w},But [] W0.drew w→But [] W0 w:=fun h=>(But.refl _ _).drew.trans' h
 have hT:∀ i,i<10→zgu i<base.tmps.size:=fun i hi=>by
  have h:zgu i≤18:=by revert i;decide
  omega
 refine region_flow3 (by kernel_rfl) (ay (by kernel_rfl)) (fun i o ho=>(zbj (ops:=zbw) (by kernel_rfl) i o ho).1)
  (opJbC B s1 x1 y1 p1 s2 x2 y2 p2 f1 f2) zgu 10 9 8 (by omega) (Stored B (f1/(f1+f2))) rfl opJbT_inj hT (fun i w w' v hi h hb=>opJbC_but h hi hb) (fun _ _=>trivial) (fun w w' v h hb=>h.but hb)
  (fun i hi=>?_) (nk (ops:=zbw) (ps:=[(9,8)]) (by kernel_rfl) 9 8 (by simp)) ?_ ?_ (fun a w=>∃ w1 bn v3 v4 v5 v6 v9 s' x' y' p',a=bi base [(12,.agg #[.bool s1,.int .u64 x1,.int .u64 y1,.pointer p1]),(13,.agg #[.bool s1,.int .u64 x1,.int .u64 y1,.pointer p1]),(14,.agg #[.bool s2,.int .u64 x2,.int .u64 y2,.pointer p2]),(15,v3),(16,v4),(11,v5),(17,v6),(18,.nilIface),(5,.pointer (some ⟨bn,0,none⟩)),(6,v9),(6,.nilIface)]∧w=w1∧But [] W0 w1∧B≤bn∧P4 w1 bn s' x' y' p'∧am w1 (.agg #[.bool s',.int .u64 x',.int .u64 y',.pointer p']) (f1/(f1+f2))) ?_ ?_ (by omega)
 ·exact nk (ops:=zbw) (ps:=[(10,0),(10,1),(10,2),(10,3),(10,4),(10,5),(10,6),(10,7),(10,8),(10,9)]) (by kernel_rfl) 10 i (by
   have:i=0∨i=1∨i=2∨i=3∨i=4∨i=5∨i=6∨i=7∨i=8∨i=9:=by omega
   rcases this with rfl|rfl|rfl|rfl|rfl|rfl|rfl|rfl|rfl|rfl <;> simp)
 ·intro i o a w K hi hiq ho hH he hdep hK
  have hD:=l9 (ps:=[(3,1),(3,2),(4,0),(4,3),(5,4),(6,5),(7,5),(9,0),(9,1),(9,2),(9,3),(9,4),(9,5),(9,6),(9,8)]) (by kernel_rfl) ho (fun j=>opJbC B s1 x1 y1 p1 s2 x2 y2 p2 f1 f2 j w (a.eval (.tmp (zgu j)))) hdep
  have hk:∀ v w',But [] w w'→opJbC B s1 x1 y1 p1 s2 x2 y2 p2 f1 f2 i w' v→K (a.put (some (zgu i)) v) w':=hK
  have e2':=(he 2 (fun j hj e=>absurd e.symm (by revert j;decide))).trans e2
  have e3':=(he 3 (fun j hj e=>absurd e.symm (by revert j;decide))).trans e3
  have:i=0∨i=1∨i=2∨i=3∨i=4∨i=5∨i=6∨i=7∨i=8∨i=9:=by omega
  rcases this with rfl|rfl|rfl|rfl|rfl|rfl|rfl|rfl|rfl|rfl
  ·obtain rfl:=so (show zbw[0]? =some opJb0 from rfl) ho
   exact al (au a w _ _ _ _ _ _ g2 0 _ _ _ _ e2' (c1.but (hdr hH) (by simp))) (hk _ _ (But.refl _ _) rfl)
  ·obtain rfl:=so (show zbw[1]? =some opJb1 from rfl) ho
   exact al (au a w _ _ _ _ _ _ g2 0 _ _ _ _ e2' (c1.but (hdr hH) (by simp))) (hk _ _ (But.refl _ _) rfl)
  ·obtain rfl:=so (show zbw[2]? =some opJb2 from rfl) ho
   exact al (au a w _ _ _ _ _ _ g3 0 _ _ _ _ e3' (c2.but (hdr hH) (by simp))) (hk _ _ (But.refl _ _) rfl)
  ·obtain rfl:=so (show zbw[3]? =some opJb3 from rfl) ho
   exact ax (run_addK a w _ _ _ _ _ _ _ _ _ (hD 1 (by simp)) (hD 2 (by simp))) (R:=fun w' v=>am w' v (f1+f2)∧But [] w w') (AD w (hdr hH)) (fun v w' hv=>hk v w' hv.2 hv.1)
  ·obtain rfl:=so (show zbw[4]? =some opJb4 from rfl) ho
   exact ax (run_divK a w _ _ _ _ _ _ _ _ _ (hD 0 (by simp)) rfl) (R:=fun w' v=>qi (f1/(f1+f2)) w' v∧But [] w w') ((DI w (hdr hH) _ (hD 3 (by simp))).mono fun e w' ⟨v,he,hf,hb⟩=>⟨_,he,⟨v,rfl,hf⟩,hb⟩) (fun v w' hv=>hk v w' hv.2 hv.1)
  ·obtain rfl:=so (show zbw[5]? =some opJb5 from rfl) ho
   exact al (bp a w _ _ _ _ _ _ _ rfl) (hk _ _ (But.refl _ _) (hD 4 (by simp)))
  ·obtain rfl:=so (show zbw[6]? =some opJb6 from rfl) ho
   obtain⟨u,eu,hu⟩:qi (f1/(f1+f2)) w _:=(hD 5 (by simp))
   exact al (zgf a w _ _ _ _ _ _ _ _ u eu rfl) (hk _ _ (But.refl _ _) hu)
  ·obtain rfl:=so (show zbw[7]? =some opJb7 from rfl) ho
   obtain⟨u,eu,hu⟩:qi (f1/(f1+f2)) w _:=(hD 5 (by simp))
   exact al (zgf a w _ _ _ _ _ _ _ _ .nilIface eu rfl) (hk _ _ (But.refl _ _) rfl)
  ·obtain rfl:=so (show zbw[8]? =some opJb8 from rfl) ho
   exact al (run_alloc4 a w _ _ _ _ _) (hk _ _ ((But.refl _ _).alloc _) ⟨w.heap.size,rfl,by rw[hBW];exact (hdr hH).size,⟨false,0,0,none,by simp,by simp,by simp,by simp⟩,fun j=>by simp⟩)
  ·exact absurd rfl hiq
 ·intro o a w K ho hH he hdep hK
  have hD:=l9 (ps:=[(9,8),(9,6)]) (by kernel_rfl) ho (fun j=>opJbC B s1 x1 y1 p1 s2 x2 y2 p2 f1 f2 j w (a.eval (.tmp (zgu j)))) hdep
  obtain rfl:=so (show zbw[9]? =some opJb9 from rfl) ho
  have cl:am w (a.eval (.tmp 17)) (f1/(f1+f2)):=hD 6 (by simp)
  obtain⟨bn,eb,hb1,⟨s0,x0,y0,p0,hb2⟩,hb3⟩:xu B w (a.eval (.tmp 5)):=hD 8 (by simp)
  have cl':=cl
  obtain⟨x',y',p',ev,-⟩:=cl.agg
  rw[ev] at cl'
  exact ve (oq a w _ _ _ _ _ bn _ x' y' p' eb ev hb2 hb3) (hK _ (hH.trans (aw w bn _ x' y' p') (fun x hx=>by simp at hx;subst hx;exact .inr (by rw[hBW] at hb1;exact hb1))) (fun j hj u hu=>opJbC_put hb2 _ x' y' p' hu hj) ⟨bn,_,x',y',p',eb,hb1,wu w bn _ x' y' p' hb2,cl'.over hb2.1 (aw w bn _ x' y' p')⟩)
 ·intro dn o a w K ho hall h hst hK
  obtain rfl:=so (show zbw[10]? =some opJb10 from rfl) ho
  obtain⟨bn,s',x',y',p',eb,hb1,hb2,hb3⟩:=hst
  have eb:a.eval (.tmp 5)=.pointer (some ⟨bn,0,none⟩):=eb
  have ea:=h.puts hT (fun i=>match i with
   | 0=>.agg #[.bool s1,.int .u64 x1,.int .u64 y1,.pointer p1]
   | 1=>.agg #[.bool s1,.int .u64 x1,.int .u64 y1,.pointer p1]
   | 2=>.agg #[.bool s2,.int .u64 x2,.int .u64 y2,.pointer p2]
   | 3=>a.eval (.tmp 15)
   | 4=>a.eval (.tmp 16)
   | 5=>a.eval (.tmp 11)
   | 6=>a.eval (.tmp 17)
   | 7=>.nilIface
   | 8=>.pointer (some ⟨bn,0,none⟩)
   | _=>a.eval (.tmp 6)) (fun i hi=>by
   have hc:=h.has i hi (hall i hi)
   have:i=0∨i=1∨i=2∨i=3∨i=4∨i=5∨i=6∨i=7∨i=8∨i=9:=by omega
   rcases this with rfl|rfl|rfl|rfl|rfl|rfl|rfl|rfl|rfl|rfl
   ·exact hc
   ·exact hc
   ·exact hc
   ·rfl
   ·rfl
   ·rfl
   ·rfl
   ·exact hc
   ·exact eb
   ·rfl)
  have ea2:a=bi base [(12,.agg #[.bool s1,.int .u64 x1,.int .u64 y1,.pointer p1]),(13,.agg #[.bool s1,.int .u64 x1,.int .u64 y1,.pointer p1]),(14,.agg #[.bool s2,.int .u64 x2,.int .u64 y2,.pointer p2]),(15,a.eval (.tmp 15)),(16,a.eval (.tmp 16)),(11,a.eval (.tmp 11)),(17,a.eval (.tmp 17)),(18,.nilIface),(5,.pointer (some ⟨bn,0,none⟩)),(6,a.eval (.tmp 6))]:=ea
  have ea3:a.put (some 6) (.nilIface)=bi base ([(12,.agg #[.bool s1,.int .u64 x1,.int .u64 y1,.pointer p1]),(13,.agg #[.bool s1,.int .u64 x1,.int .u64 y1,.pointer p1]),(14,.agg #[.bool s2,.int .u64 x2,.int .u64 y2,.pointer p2]),(15,a.eval (.tmp 15)),(16,a.eval (.tmp 16)),(11,a.eval (.tmp 11)),(17,a.eval (.tmp 17)),(18,.nilIface),(5,.pointer (some ⟨bn,0,none⟩)),(6,a.eval (.tmp 6))]++[(6,.nilIface)]):=(congrArg (fun z:Act=>z.put (some 6) (.nilIface)) ea2).trans (zco _ _ _ _)
  have hev:a.eval (.tmp 18)=.nilIface:=h.has 7 (by omega) (hall 7 (by omega))
  exact al (run_as _ _ _ _ _ _ _ _ _ hev) (hK _ _ ⟨w,bn,a.eval (.tmp 15),a.eval (.tmp 16),a.eval (.tmp 11),a.eval (.tmp 17),a.eval (.tmp 6),s',x',y',p',ea3,rfl,hdr h.mem,hb1,hb2,hb3⟩)
 ·rintro a w ⟨w1,bn,v3,v4,v5,v6,v9,s',x',y',p',rfl,rfl,h1,h2,h3,h4⟩
  exact hQ _ bn v3 v4 v5 v6 v9 s' x' y' p' h1 h2 h3 h4
def opJc0:Oper:=⟨some 3,.call { callee:=.value (.func 71),args:=#[.const (.int .i64 1)],argTypes:=#[3] },27, "line.go:79",#[],none⟩
def opJc1:Oper:=⟨some 4,.load 27 (.tmp 1),27, "line.go:79",#[],none⟩
def opJc2:Oper:=⟨some 5,.call { callee:=.value (.func 31),args:=#[.tmp 3,.tmp 4],argTypes:=#[27,27] },27, "line.go:79",#[⟨0,.data⟩,⟨1,.data⟩,⟨0,.chain⟩],none⟩
def opJc3:Oper:=⟨none,.store 27 (.tmp 2) (.tmp 5),0, "line.go:79",#[⟨2,.data⟩,⟨2,.chain⟩,⟨0,.phase⟩,⟨1,.phase⟩,⟨2,.phase⟩],none⟩
def opJcs:Array Oper:=#[opJc0,opJc1,opJc2,opJc3]
def opJcT (i:Nat):Nat:=match i with
 | 0=>3
 | 1=>4
 | _=>5
def opJcC (ws:Bool) (wx:Int) (s1:Bool) (x1:Int) (y1:Int) (p1:Option Addr) (f1:Rat) (i:Nat) (w:World) (v:Value):Prop:=match i with
 | 0=>v=.agg #[.bool ws,.int .u64 wx,.int .u64 0,.pointer none]
 | 1=>v=.agg #[.bool s1,.int .u64 x1,.int .u64 y1,.pointer p1]
 | _=>am w v (((1:Int):Rat)-f1)
theorem opJcC_but {ws:Bool} {wx:Int} {s1:Bool} {x1:Int} {y1:Int} {p1:Option Addr} {f1:Rat} {i:Nat} {w w':World} {v:Value} (h:opJcC ws wx s1 x1 y1 p1 f1 i w v) (hi:i<3) (hb:But [] w w'):opJcC ws wx s1 x1 y1 p1 f1 i w' v:=by
 have:i=0∨i=1∨i=2:=by omega
 rcases this with rfl|rfl|rfl
 all_goals first | exact h | exact am.but h hb | exact an.but h hb
theorem opJcT_inj:∀ i j,i<3→j<3→opJcT i=opJcT j→i=j:=fun i j hi hj=>(by decide:∀ i,i<3→∀ j,j<3→opJcT i=opJcT j→i=j) i hi j hj
theorem rest_region (id:Nat) (Q:Exit→Act→World→Prop) (base:Act) (W0:World) (ws:Bool) (wx:Int) (s1:Bool) (x1:Int) (y1:Int) (p1:Option Addr) (f1:Rat) (gb g1:Nat) {sb:Bool} {xb yb:Int} {pb:Option Addr} (hs:5<base.tmps.size) (eb:base.eval (.tmp 2)=.pointer (some ⟨gb,0,none⟩)) (cb:P4 W0 gb sb xb yb pb) (fzb:∀ j,W0.frozen? ⟨gb,j,none⟩=false) (e1:base.eval (.tmp 1)=.pointer (some ⟨g1,0,none⟩))
  (c1:P4 W0 g1 s1 x1 y1 p1)
  (WH:∀ w,Calls prog 71 #[.int .i64 1] w fun e w'=>e=.returned (.agg #[.bool ws,.int .u64 wx,.int .u64 0,.pointer none])∧But [] w w')
  (SU:∀ w,But [] W0 w→Calls prog 31 #[.agg #[.bool ws,.int .u64 wx,.int .u64 0,.pointer none],.agg #[.bool s1,.int .u64 x1,.int .u64 y1,.pointer p1]] w fun e w'=>∃ v,e=.returned v∧am w' v (((1:Int):Rat)-f1)∧But [] w w')
  (hQ:∀ w1 s' x' y' p',But [] W0 w1→am w1 (.agg #[.bool s',.int .u64 x',.int .u64 y',.pointer p']) (((1:Int):Rat)-f1)→Q .normal (bi base [(3,.agg #[.bool ws,.int .u64 wx,.int .u64 0,.pointer none]),(4,.agg #[.bool s1,.int .u64 x1,.int .u64 y1,.pointer p1]),(5,(.agg #[.bool s',.int .u64 x',.int .u64 y',.pointer p']))]) (jk w1 gb s' x' y' p')) :
  (Code.region id opJcs true).wp prog Q base W0:=by
 have hdr:∀ {w},But [] W0.drew w→But [] W0 w:=fun h=>(But.refl _ _).drew.trans' h
 have lgb:gb<W0.heap.size:=ai cb.1
 have hT:∀ i,i<3→opJcT i<base.tmps.size:=fun i hi=>by
  have h:opJcT i≤5:=by revert i;decide
  omega
 refine zas (by kernel_rfl) (ay (by kernel_rfl)) (fun i o ho=>(zbj (ops:=opJcs) (by kernel_rfl) i o ho).1)
  (fun _ w=>But [] W0.drew w) (opJcC ws wx s1 x1 y1 p1 f1) opJcT 3 rfl opJcT_inj hT (But.refl _ _)
  (fun i hi=>?_) ?_ (fun a w=>∃ w1 s' x' y' p',a=bi base [(3,.agg #[.bool ws,.int .u64 wx,.int .u64 0,.pointer none]),(4,.agg #[.bool s1,.int .u64 x1,.int .u64 y1,.pointer p1]),(5,(.agg #[.bool s',.int .u64 x',.int .u64 y',.pointer p']))]∧w=jk w1 gb s' x' y' p'∧But [] W0 w1∧am w1 (.agg #[.bool s',.int .u64 x',.int .u64 y',.pointer p']) (((1:Int):Rat)-f1)) ?_ ?_
 ·exact nk (ops:=opJcs) (ps:=[(3,0),(3,1),(3,2)]) (by kernel_rfl) 3 i (by
   have:i=0∨i=1∨i=2:=by omega
   rcases this with rfl|rfl|rfl <;> simp)
 ·intro dn i o a w K hi ho hdi hH he hdep hK
  have hD:=fun j hj=>(l9 (ps:=[(2,0),(2,1)]) (by kernel_rfl) ho (fun j=>dn j=true∧opJcC ws wx s1 x1 y1 p1 f1 j w (a.eval (.tmp (opJcT j)))) hdep j hj).2
  have hk:∀ v w',But [] w w'→opJcC ws wx s1 x1 y1 p1 f1 i w' v→K (a.put (some (opJcT i)) v) w':=fun v w' hb hv=>hK v w' (hH.trans' hb) (fun j hj _ u hu=>opJcC_but hu hj hb) hv
  have eb':=(he 2 (fun j hj e=>absurd e.symm (by revert j;decide))).trans eb
  have e1':=(he 1 (fun j hj e=>absurd e.symm (by revert j;decide))).trans e1
  have:i=0∨i=1∨i=2:=by omega
  rcases this with rfl|rfl|rfl
  ·obtain rfl:=so (show opJcs[0]? =some opJc0 from rfl) ho
   exact ax (run_oneK a w _ _ _ _ _ 1) (R:=fun w' v=>But [] w w'∧v=_) ((WH w).mono fun e w' ⟨he,hb⟩=>⟨_,he,hb,rfl⟩) (fun v w' hv=>hk v w' hv.1 hv.2)
  ·obtain rfl:=so (show opJcs[1]? =some opJc1 from rfl) ho
   exact al (au a w _ _ _ _ _ _ g1 0 _ _ _ _ e1' (c1.but (hdr hH) (by simp))) (hk _ _ (But.refl _ _) rfl)
  ·obtain rfl:=so (show opJcs[2]? =some opJc2 from rfl) ho
   exact ax (run_subJ a w _ _ _ _ _ _ _ _ _ (hD 0 (by simp)) (hD 1 (by simp))) (R:=fun w' v=>am w' v (((1:Int):Rat)-f1)∧But [] w w') (SU w (hdr hH)) (fun v w' hv=>hk v w' hv.2 hv.1)
 ·intro dn o a w K ho hall h hK
  obtain rfl:=so (show opJcs[3]? =some opJc3 from rfl) ho
  have eb':=(h.eval 2 (fun j hj e=>absurd e.symm (by revert j;decide))).trans eb
  have cl:am w (a.eval (.tmp 5)) (((1:Int):Rat)-f1):=h.has 2 (by omega) (hall 2 (by omega))
  have cl':=cl
  obtain⟨x',y',p',ev,-⟩:=cl.agg
  rw[ev] at cl'
  have ea:=h.puts hT (fun i=>match i with
   | 0=>.agg #[.bool ws,.int .u64 wx,.int .u64 0,.pointer none]
   | 1=>.agg #[.bool s1,.int .u64 x1,.int .u64 y1,.pointer p1]
   | _=>.agg #[.bool (decide ((((1:Int):Rat)-f1).num<0)),.int .u64 x',.int .u64 y',.pointer p']) (fun i hi=>by
   have hc:=h.has i hi (hall i hi)
   have:i=0∨i=1∨i=2:=by omega
   rcases this with rfl|rfl|rfl
   all_goals first | exact ev | exact hc|rfl)
  exact ve (oq a w _ _ _ _ _ gb _ x' y' p' eb' ev (cb.but (hdr h.mem) (by simp)) (fun j=>((hdr h.mem).frozen (p:=⟨gb,j,none⟩) lgb (by simp)).trans (fzb j))) (hK _ _ ⟨w,_,x',y',p',ea,rfl,hdr h.mem,cl'⟩)
 ·rintro a w ⟨w1,s',x',y',p',rfl,rfl,h1,h2⟩
  exact hQ  w1 s' x' y' p' h1 h2
def errV (q:Int):Value:=if q=0 then .nilIface else .iface 33 (.int .i64 q)
end Go.Proofs.YtffghofheeleeaaGreatDoor
