/- A region that draws its order, whatever  -/
import Derived.Laws.MakeOwn
import Derived.RangeFuncNested
import Derived.RangeFuncBound
import Derived.RangeFuncCalls
import Derived.RangeFuncLeaves
import Derived.Shelf.Abstract
import Derived.Shelf.RegionOpen
import Derived.WalkKit
import Derived.OwnWalkIn
import Derived.TacticsInMore
import Derived.LoopNIn
import Derived.LoopIn
import Derived.Test.YtagmkkiagjmimaaGreatDoorProg
import Derived.Test.YtagmkkiagjmimaaGreatDoorXKO
import Derived.Test.YtagmkkiagjmimaaGreatDoorXRLr
import Derived.Test.YtagmkkiagjmimaaGreatDoorXRUr
namespace Go.Proofs.YtagmkkiagjmimaaGreatDoor
open Go.Proofs.Tryz
open Go.RowKit
structure qht {α:Type} (ops:Array Oper) (base:Act) (H:α→(Nat→Bool)→World→Prop) (V:α→Nat→Value) (T:Nat→Nat) (wr:Nat→Bool) (m:Nat) (d:Nat→Bool) (a:Act) (w:World) (N:α):Prop where
 down:Closed ops d
 mem:H N d w
 size:a.tmps.size=base.tmps.size
 defers:a.defers=base.defers
 rest:∀ t,(∀ j,j<m→wr j=true→d j=true→t≠T j)→a.tmps[t]? = base.tmps[t]?
 has:∀ i,i<m→wr i=true→d i=true→a.eval (.tmp (T i))=V N i
theorem zul {P:Program} {id:Nat} {ops:Array Oper} {Q:Exit→Act→World→Prop} {base:Act} {W0:World} (hm:P.follows .mixedOrders=true)
   (hlow:∀ i o,ops[i]? = some o→∀ e ∈ o.after,Region.binds .any e=true→e.on<i)
   (hg:∀ (i:Nat) (o:Oper),ops[i]? = some o→o.guard=none)
   {α:Type} (H:α→(Nat→Bool)→World→Prop) (V:α→Nat→Value) (T:Nat→Nat) (wr:Nat→Bool) (m:Nat) (hsz:ops.size=m)
   (hinj:∀ i j,i<m→j<m→wr i=true→wr j=true→T i=T j→i=j) (hT:∀ i,i<m→wr i=true→T i<base.tmps.size) (N0:α) (h0:H N0 (fun _=>false) W0.drew)
   (hstep:∀ (N:α) (d:Nat→Bool) (i:Nat) (o:Oper) (a:Act) (w:World) (K:Act→World→Prop),i<m→ops[i]? = some o→d i=false→Closed ops d→H N d w→(∀ t,(∀ j,j<m→wr j=true→d j=true→t≠T j)→a.eval (.tmp t)=base.eval (.tmp t))→(∀ e ∈ o.after,Region.binds .any e=true→d e.on=true∧(wr e.on=true→a.eval (.tmp (T e.on))=V N e.on))→(∀ N' v w',(wr i=true→v=V N' i)→(∀ j,j<m→wr j=true→d j=true→V N' j=V N j)→H N' (came d i) w'→K (a.put (if wr i=true then some (T i) else none) v) w')→o.wp P a w K Q)
   (hend:∀ N d w,(∀ i,i<m→d i=true)→H N d w→Q .normal (bk base (((List.range m).filter wr).map fun i=>(T i,V N i))) w) :
   (Code.region id ops true).wp P Q base W0:=by(
 have wpo:∀ i o a w (K:Act→World→Prop),ops[i]? = some o→o.wp P a w K Q→wpOp P ops Q i K a w:=fun i o a w K ho h=>by
  unfold wpOp
  simp only[ho,Region.wanted,hg i o ho,if_true]
  exact .inl h
 refine zbk hm hlow (fun d a w=>∃ N,qht ops base H V T wr m d a w N) ?_ ?_ ?_
 ·exact⟨N0,fun _ _ _ h=>by simp at h,h0,rfl,rfl,fun _ _=>rfl,fun _ _ _ h=>by simp at h⟩
 ·(
 rintro d a w hd ⟨N,h⟩
 have ea:a=bk base (((List.range m).filter wr).map fun i=>(T i,V N i)):=by
  refine zdd _ base a h.defers h.size (fun p hp=>?_) (fun t ht=>?_)
  ·obtain⟨i,hi,rfl⟩:=List.mem_map.1 hp
   obtain⟨hi1,hi2⟩:=List.mem_filter.1 hi
   have hi':=List.mem_range.1 hi1
   exact zgs (h.has i hi' hi2 (hd i (by omega))) (by rw[h.size];exact hT i hi' hi2)
  ·refine h.rest t (fun j hj hw hdj e=>?_)
   exact ht (T j,V N j) (List.mem_map.2 ⟨j,List.mem_filter.2 ⟨List.mem_range.2 hj,hw⟩,rfl⟩) e
 rw[ea]
 exact hend N d w (fun i hi=>hd i (by omega)) h.mem)
 ·(
 rintro d i o a w ho hdi hdep ⟨N,h⟩
 refine wpo i o a w _ ho ?_
 have hi:i<m:=by rw[← hsz];exact (Array.getElem?_eq_some_iff.1 ho).1
 refine hstep N d i o a w _ hi ho hdi h.down h.mem (fun t ht=>znj (h.rest t ht)) (fun ed he hb=>⟨hdep ed he hb,fun hw=>h.has _ (by have:=hlow i o ho ed he hb;omega) hw (hdep ed he hb)⟩) ?_
 rintro N' v w' hv hV hH
 by_cases hw:wr i=true
 ·(
 obtain rfl:=hv hw
 rw[if_pos hw]
 refine⟨N',h.down.next ho hdep,hH,by rw[zae];exact h.size,h.defers,fun t ht=>?_,fun j hj hwj hd=>?_⟩
 ·(
 rw[zej,if_neg (fun e=>ht i hi hw (ek d i) e.symm)]
 refine h.rest t (fun j hj hwj hdj=>ht j hj hwj ?_)
 by_cases e:j=i
 ·subst e;exact ek d j
 ·rw[j5 d e];exact hdj)
 ·(
 by_cases e:j=i
 ·subst e
  exact at_eq a (T j) _ (by rw[h.size];exact hT j hj hwj)
 ·rw[j5 d e] at hd
  rw[zxe a (T i) (T j) _ (fun e2=>e (hinj j i hj hi hwj hw e2)),h.has j hj hwj hd]
  exact (hV j hj hwj hd).symm))
 ·(
 rw[if_neg hw]
 have ne:∀ j,wr j=true→j≠i:=fun j hj e=>hw (e ▸ hj)
 refine⟨N',h.down.next ho hdep,hH,h.size,h.defers,fun t ht=>h.rest t (fun j hj hwj hdj=>ht j hj hwj (by rw[j5 d (ne j hwj)];exact hdj)),fun j hj hwj hd=>?_⟩
 rw[j5 d (ne j hwj)] at hd
 rw[show a.put none v=a from rfl,h.has j hj hwj hd]
 exact (hV j hj hwj hd).symm)))
theorem znu {qs:List (Int × Int)} (hf:∀ q ∈ qs,Fits q):∀ r ∈ qs.map qf,Len r 1:=fun r hr=>by
 obtain⟨q,hq,rfl⟩:=List.mem_map.1 hr
 obtain⟨-,-,-,h,-⟩:=znm q (hf q hq)
 exact h
theorem zhb (v:Value) (qs:List (Int × Int)) (w:World) (hq:zqg w v qs) (hf:∀ q ∈ qs,Fits q) (hn:qs.length≤1000) :
   Calls prog 18 #[v] w fun e w'=>∃ v',e=.returned v'∧av w' v' (qs.map qf)∧But [] w w':=by(
 have FS:=af (zrr v qs w hq hf hn)
 obtain⟨a,cap,rfl,-,-⟩:=hq
 clear hf
 go_enter func18,ntmps18
 go_wp2_with fail
 refine (ae FS).mono ?_
 rintro e w1 ⟨v',vs,rfl,hh,hb⟩
 have H1:=af hh
 have B1:=af hb
 clear hh hb
 go_wp2
 go_ret
 exact⟨_,rfl,(ae H1).qib,ae B1⟩)
theorem zfl {fs:List Rat} (h:∀ f ∈ fs,0≤f) (k:Nat) (hk:k<fs.length):0≤fs[k]?.getD 0:=by
 rw[List.getElem?_eq_getElem hk]
 exact h _ (List.getElem_mem hk)
set_option linter.unusedVariables false
theorem zxn (w:World):Calls prog 10 #[.nilIface] w fun e w'=>e=.returned (.int .i64 0)∧But [] w w':=by(
 go_enter func10,ntmps10
 go_wp2
 go_ret
 exact⟨rfl,But.refl _ _⟩)
theorem zyy {f:Rat} {n:Nat} (h:qd f n):Len f n:=by(
 have e:∀ m:Nat,(wd 4294967296 m).length≤n→(wd 18446744073709551616 m).length≤n:=fun m hm=>by
  refine aj (by omega) m n (Nat.lt_of_lt_of_le (am (by omega) m n hm) (Nat.pow_le_pow_left (by omega) n))
 exact⟨e _ h.1,e _ h.2⟩)
theorem zcl {w:World} {v:Value} {fs:List Rat} (h:av w v fs) (h0:0<fs.length):∃ b off cap,v=.slice (some ⟨b,off,none⟩) fs.length cap∧fs.length≤cap:=by(
 obtain⟨a,cap,e,hc,h⟩:=h
 obtain⟨b,off,rfl,-⟩:=h 0 _ (List.getElem?_eq_getElem h0)
 exact⟨b,off,cap,e,hc⟩)
theorem znv (P:Nat→Prop):∀ n,(∀ j,j<n→P j)∨∃ q,q<n∧(∀ j,j<q→P j)∧¬ P q
 | 0=>.inl fun j hj=>absurd hj (by omega)
 | n+1=>by
  rcases znv P n with h|⟨q,h1,h2,h3⟩
  ·by_cases hp:P n
   ·exact .inl fun j hj=>by
     by_cases e:j=n
     ·rw[e];exact hp
     ·exact h j (by omega)
   ·exact .inr ⟨n,by omega,h,hp⟩
  ·exact .inr ⟨q,by omega,h2,h3⟩
theorem zey (fs:List Rat) (i:Nat) (h:i<fs.length):fs[i]? = some (atR fs i):=by
 unfold atR
 rw[List.getElem?_eq_getElem h];rfl
theorem zea {fs:List Rat} {c:Nat} (lf:∀ f ∈ fs,Len f c) (i:Nat) (h:i<fs.length):qd (atR fs i) (2*c):=by(
 have e:=zey fs i h
 have hm:atR fs i ∈ fs:=List.mem_of_getElem? e
 exact zhk (lf _ hm))
end Go.Proofs.YtagmkkiagjmimaaGreatDoor
