/- Lists of the reference's numbers: as the -/
import Derived.Test.YtffghofheeleeaaGreatDoorKHQ
import Derived.Test.YtffghofheeleeaaGreatDoorKT2qL
namespace Go.Proofs.YtffghofheeleeaaGreatDoor
open Go.RowKit
def zoy (u:Value):Prop:=(∀ s,u≠.bool s)∧∀ n:Int,u≠.int .u32 n
theorem zh.zjq {w w':World} {b o g:Nat} {z:Int} {u:Value} (h:zh w b o z) (hb:But [g] w w') (hn:b≠g) (hc:w.cell? ⟨g,0,none⟩=some u) (hu:zoy u):zh w' b o z:=by
 obtain⟨h0,v,h1,h2⟩:=h
 exact⟨hb.ag h0 (by simpa using hn),v,hb.ag h1 (by simpa using hn),h2.over hb hc (fun n e=>hu.2 n e)⟩
theorem za.zjq {w w':World} {b g:Nat} {f:Rat} {u:Value} (h:za w b f) (hb:But [g] w w') (hc:w.cell? ⟨g,0,none⟩=some u) (hu:zoy u):za w' b f:=by
 have hn:b≠g:=fun e=>by
  subst e
  have h1:=h.up.1
  rw[hc] at h1
  exact hu.1 _ (Option.some.inj h1)
 exact⟨h.up.zjq hb hn hc hu,h.low.zjq hb hn hc hu,h.sa.but hb (by simpa using hn),h.sb.but hb (by simpa using hn)⟩
theorem zni (q:Option Addr):zoy (.pointer q):=⟨fun s e=>by simp at e,fun n e=>by simp at e⟩
structure qeq {α:Type} (ops:Array Oper) (base:Act) (H:α→(Nat→Bool)→World→Prop) (V:α→Nat→Value) (T:Nat→Nat) (wr:Nat→Bool) (m:Nat) (d:Nat→Bool) (a:Act) (w:World) (N:α):Prop where
 down:Closed ops d
 mem:H N d w
 size:a.tmps.size=base.tmps.size
 defers:a.defers=base.defers
 rest:∀ t,(∀ j,j<m→wr j=true→d j=true→t≠T j)→a.tmps[t]? = base.tmps[t]?
 has:∀ i,i<m→wr i=true→d i=true→a.eval (.tmp (T i))=V N i
theorem zay {P:Program} {id:Nat} {ops:Array Oper} {Q:Exit→Act→World→Prop} {base:Act} {W0:World} (hm:P.follows .mixedOrders=true)
  (hlow:∀ i o,ops[i]? = some o→∀ e ∈ o.after,Region.binds .any e=true→e.on<i)
  (hg:∀ (i:Nat) (o:Oper),ops[i]? = some o→o.guard=none)
  {α:Type} (H:α→(Nat→Bool)→World→Prop) (V:α→Nat→Value) (T:Nat→Nat) (wr:Nat→Bool) (m:Nat) (hsz:ops.size=m)
  (hinj:∀ i j,i<m→j<m→wr i=true→wr j=true→T i=T j→i=j) (hT:∀ i,i<m→wr i=true→T i<base.tmps.size) (N0:α) (h0:H N0 (fun _=>false) W0.drew)
  (hstep:∀ (N:α) (d:Nat→Bool) (i:Nat) (o:Oper) (a:Act) (w:World) (K:Act→World→Prop),i<m→ops[i]? = some o→d i=false→Closed ops d→H N d w→(∀ t,(∀ j,j<m→wr j=true→d j=true→t≠T j)→a.eval (.tmp t)=base.eval (.tmp t))→(∀ e ∈ o.after,Region.binds .any e=true→d e.on=true∧(wr e.on=true→a.eval (.tmp (T e.on))=V N e.on))→(∀ N' v w',(wr i=true→v=V N' i)→(∀ j,j<m→wr j=true→d j=true→V N' j=V N j)→H N' (came d i) w'→K (a.put (if wr i=true then some (T i) else none) v) w')→o.wp P a w K Q)
  (hend:∀ N d w,(∀ i,i<m→d i=true)→H N d w→Q .normal (bk base (((List.range m).filter wr).map fun i=>(T i,V N i))) w) :
  (Code.region id ops true).wp P Q base W0:=by
 have wpo:∀ i o a w (K:Act→World→Prop),ops[i]? = some o→o.wp P a w K Q→wpOp P ops Q i K a w:=fun i o a w K ho h=>by
  unfold wpOp
  simp only[ho,Region.wanted,hg i o ho,if_true]
  exact .inl h
 refine zck hm hlow (fun d a w=>∃ N,qeq ops base H V T wr m d a w N) ?_ ?_ ?_
 ·exact⟨N0,fun _ _ _ h=>by simp at h,h0,rfl,rfl,fun _ _=>rfl,fun _ _ _ h=>by simp at h⟩
 ·rintro d a w hd ⟨N,h⟩
  have ea:a=bk base (((List.range m).filter wr).map fun i=>(T i,V N i)):=by
   refine zgc _ base a h.defers h.size (fun p hp=>?_) (fun t ht=>?_)
   ·obtain⟨i,hi,rfl⟩:=List.mem_map.1 hp
    obtain⟨hi1,hi2⟩:=List.mem_filter.1 hi
    have hi':=List.mem_range.1 hi1
    exact zks (h.has i hi' hi2 (hd i (by omega))) (by rw[h.size];exact hT i hi' hi2)
   ·refine h.rest t (fun j hj hw hdj e=>?_)
    exact ht (T j,V N j) (List.mem_map.2 ⟨j,List.mem_filter.2 ⟨List.mem_range.2 hj,hw⟩,rfl⟩) e
  rw[ea]
  exact hend N d w (fun i hi=>hd i (by omega)) h.mem
 ·rintro d i o a w ho hdi hdep ⟨N,h⟩
  refine wpo i o a w _ ho ?_
  have hi:i<m:=by rw[← hsz];exact (Array.getElem?_eq_some_iff.1 ho).1
  refine hstep N d i o a w _ hi ho hdi h.down h.mem (fun t ht=>zmw (h.rest t ht)) (fun ed he hb=>⟨hdep ed he hb,fun hw=>h.has _ (by have:=hlow i o ho ed he hb;omega) hw (hdep ed he hb)⟩) ?_
  rintro N' v w' hv hV hH
  by_cases hw:wr i=true
  ·obtain rfl:=hv hw
   rw[if_pos hw]
   refine⟨N',h.down.next ho hdep,hH,by rw[zdc];exact h.size,h.defers,fun t ht=>?_,fun j hj hwj hd=>?_⟩
   ·rw[zia,if_neg (fun e=>ht i hi hw (ko d i) e.symm)]
    refine h.rest t (fun j hj hwj hdj=>ht j hj hwj ?_)
    by_cases e:j=i
    ·subst e;exact ko d j
    ·rw[jh d e];exact hdj
   ·by_cases e:j=i
    ·subst e
     exact at_eq a (T j) _ (by rw[h.size];exact hT j hj hwj)
    ·rw[jh d e] at hd
     rw[qbu a (T i) (T j) _ (fun e2=>e (hinj j i hj hi hwj hw e2)),h.has j hj hwj hd]
     exact (hV j hj hwj hd).symm
  ·rw[if_neg hw]
   have ne:∀ j,wr j=true→j≠i:=fun j hj e=>hw (e ▸ hj)
   refine⟨N',h.down.next ho hdep,hH,h.size,h.defers,fun t ht=>h.rest t (fun j hj hwj hdj=>ht j hj hwj (by rw[jh d (ne j hwj)];exact hdj)),fun j hj hwj hd=>?_⟩
   rw[jh d (ne j hwj)] at hd
   rw[show a.put none v=a from rfl,h.has j hj hwj hd]
   exact (hV j hj hwj hd).symm
structure zbl (B:Nat) (w:World) (g:Nat) (vs:List Value):Prop where
 cells:∀ k v,vs[k]? = some v→w.cell? ⟨g,k,none⟩=some v
 loose:∀ j,w.frozen? ⟨g,j,none⟩=false
 new:B≤g
 lt:g<w.heap.size
theorem zbl.but {B:Nat} {w w':World} {g:Nat} {vs:List Value} (h:zbl B w g vs) (hb:But [] w w'):zbl B w' g vs :=
 ⟨fun k v hv=>hb.ag (h.cells k v hv) (by simp),fun j=>(hb.frozen (p:=⟨g,j,none⟩) h.lt (by simp)).trans (h.loose j),h.new,Nat.lt_of_lt_of_le h.lt hb.size⟩
theorem zbl.made (B:Nat) (w:World) (vs:List Value) (t:TypeId) (h:B≤w.heap.size):zbl B (w.alloc (.cells vs.toArray t)) w.heap.size vs :=
 ⟨fun k v hv=>by rw[World.cell?_alloc_new];simpa using hv,fun j=>by simp,h,by simp⟩
theorem zbl.put {B:Nat} {w:World} {g:Nat} {vs us:List Value} (h:zbl B w g vs) (hl:us.length=vs.length):zbl B (w.setCells g 0 us) g us:=by
 refine⟨fun k v hv=>?_,fun j=>by rw[World.frozen?_setCells];exact h.loose j,h.new,Nat.lt_of_lt_of_le h.lt (br w g _ _).size⟩
 have hk:k<us.length:=(List.getElem?_eq_some_iff.1 hv).1
 have e:=World.cell?_setCells_in g us 0 w (fun j hj=>by
  rw[Nat.zero_add,h.cells j vs[j] (List.getElem?_eq_getElem (by omega))];rfl) k hk
 rw[Nat.zero_add] at e
 rw[e,← (List.getElem?_eq_some_iff.1 hv).2]
end Go.Proofs.YtffghofheeleeaaGreatDoor
