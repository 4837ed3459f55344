/- The fractions of pairs, as the Go text o -/
import Derived.Test.YtagmkkiagjmimaaGreatDoorRows
import Derived.Test.YtagmkkiagjmimaaGreatDoorTie
import Derived.Test.YtagmkkiagjmimaaGreatDoorCards
import Derived.Lib.SmallJoins
import Derived.ProofKit
import Derived.OpenShut
import Derived.LaidMore
import Derived.LaidHandle
import Derived.Stop.Joined
import Derived.SevenTiedAt
import Derived.Deep.SlicePairs
import Derived.Carry
import Derived.Shelf.Vars
import Derived.Laws.IdiomCopy
import Derived.Test.YtagmkkiagjmimaaGreatDoorST3r
namespace Go.Proofs.YtagmkkiagjmimaaGreatDoor
open Go.Proofs.Tryz
open Go.RowKit
set_option maxHeartbeats 8000000
set_option maxRecDepth 100000
theorem zrd (v:Value) (qs:List (Int × Int)) (w:World) (hq:zss w v qs) (hf:∀ q ∈ qs,Fits q) (hn:qs.length≤1000) :
   Calls prog 80 #[v] w fun e w'=>∃ v' vs,e=.returned v'∧zvg w' w.heap.size 27 v' (qs.map qf) vs∧But [] w w':=by(
 obtain⟨a,cap,rfl,hcap,hc⟩:=hq
 obtain⟨R,X,Y,hV⟩:∃ (R:Nat→Bool) (X Y:Nat→Int),∀ i,i<qs.length→(∀ W,am W (.agg #[.bool (R i),.int .u64 (X i),.int .u64 (Y i),.pointer none]) (qf (qs[i]?.getD (0,0))))∧∀ W,Calls prog 9 #[.agg #[.int .i64 (qs[i]?.getD (0,0)).1,.int .i64 (qs[i]?.getD (0,0)).2]] W fun e w'=>e=.returned (.agg #[.bool (R i),.int .u64 (X i),.int .u64 (Y i),.pointer none])∧But [] W w':=by
  have h:∀ i,∃ t:Bool × Int × Int,i<qs.length→(∀ W,am W (.agg #[.bool t.1,.int .u64 t.2.1,.int .u64 t.2.2,.pointer none]) (qf (qs[i]?.getD (0,0))))∧∀ W,Calls prog 9 #[.agg #[.int .i64 (qs[i]?.getD (0,0)).1,.int .i64 (qs[i]?.getD (0,0)).2]] W fun e w'=>e=.returned (.agg #[.bool t.1,.int .u64 t.2.1,.int .u64 t.2.2,.pointer none])∧But [] W w':=fun i=>by
   by_cases hi:i<qs.length
   ·rw[List.getElem?_eq_getElem hi]
    obtain⟨r,x,y,-,h1,h2⟩:=zhk qs[i] (hf _ (List.getElem_mem hi))
    exact⟨(r,x,y),fun _=>⟨h1,h2⟩⟩
   ·exact⟨(false,0,0),fun h=>absurd h hi⟩
  obtain⟨t,ht⟩:=Classical.axiomOfChoice h
  exact⟨fun i=>(t i).1,fun i=>(t i).2.1,fun i=>(t i).2.2,ht⟩
 have hcell:∀ i,i<qs.length→∃ b off,a=some ⟨b,off,none⟩∧w.cell? ⟨b,off+i*2,none⟩=some (.int .i64 (qs[i]?.getD (0,0)).1)∧w.cell? ⟨b,off+i*2+1,none⟩=some (.int .i64 (qs[i]?.getD (0,0)).2):=fun i hi=>by
  rw[List.getElem?_eq_getElem hi]
  exact hc i _ (List.getElem?_eq_getElem hi)
 have hmap:∀ i,(qs.map qf)[i]? = (qs[i]?).map qf:=fun i=>List.getElem?_map ..
 have HM:=af hmap
 have HC:=af hcell
 have HV:=af hV
 clear hmap hcell hV hc hf
 obtain⟨n,hnn⟩:∃ n,n=qs.length:=⟨_,rfl⟩
 have HN:=af hnn
 rw[← hnn] at hn hcap HC HV
 rw[← hnn]
 clear hnn
 go_enter func80,ntmps80
 go_wp2
 go_loopw [3,8] (fun o i wr=>∃ k:Nat,k≤n∧i=.int .i64 (k:Int)∧Hid (wr.ownsRow w.heap.size 27 4 o k (zad ((List.range k).map fun i=>.agg #[.bool (R i),.int .u64 (X i),.int .u64 (Y i),.pointer none]))∧But [] w wr)) (fun _ i _=>n-(intOf i).toNat)
 case atStart=>exact⟨0,Nat.zero_le _,rfl,World.ownsRow_nil _ _ _ _,But.refl _ _⟩
 case round =>(
 obtain⟨k,hk,rfl,HI⟩:=hrel
 rename World=>wr
 by_cases hlt:k<n
 ·(
 obtain⟨b,off,rfl,c0,c1⟩:=ae HC k hlt
 have c0':=(ae HI).2.ag c0 (by simp)
 have c1':=(ae HI).2.ag c1 (by simp)
 obtain⟨hva,hvb⟩:=ae HV k hlt
 have PF:=af hvb
 clear hva hvb c0 c1
 generalize (qs[k]?.getD (0,0)).1=q1 at *
 generalize (qs[k]?.getD (0,0)).2=q2 at *
 have ba:=(But.refl [] wr).alloc (.cells #[.int .i64 q1,.int .i64 q2] 23)
 have BA:=af ba
 clear ba
 go_wp2_with fail
 refine (ae PF _).mono ?_
 rintro e w1 ⟨rfl,hb1⟩
 have B1:Hid (But [] wr w1):=(ae BA).trans' hb1
 clear hb1
 obtain⟨V,hV⟩:∃ V,V=w1.alloc (.cells #[.bool (R k),.int .u64 (X k),.int .u64 (Y k),.pointer none] 27):=⟨_,rfl⟩
 have cc:P4 V w1.heap.size (R k) (X k) (Y k) none:=by rw[hV];exact⟨by simp,by simp,by simp,by simp⟩
 have bV:But [] wr V:=(ae B1).trans' (by rw[hV];exact (But.refl _ _).alloc _)
 have oV:=zif (ae HI).1 bV
 obtain⟨v',w',hr,ho,hg⟩:=zso V w.heap.size u3 k _ oV w1.heap.size _ _ _ _ cc (by omega) ((ae HI).2.trans' bV).size
 have BF:Hid (But [] w w'):=zgx ((ae HI).2.trans' bV) oV (Nat.le_refl _) hg
 have HO:=af ho
 rw[hV] at hr
 have HR:=af hr
 clear hr ho hg oV bV cc hV
 go_wp2_with (at_builtin;refine jb rfl _ _ 46 46 rfl _ _ v' w' rfl rfl (ae HR) ?_)
 refine⟨⟨k+1,by omega,by go_num,by rw[List.range_succ,List.map_append];exact ae HO,ae BF⟩,by simp[intOf];omega⟩)
 ·(
 obtain rfl:k=n:=by omega
 obtain⟨a',c',rfl⟩:=ownsRow_form (ae HI).1
 go_wp2
 go_ret
 have hlen:(qs.map qf).length=k:=by rw[List.length_map];exact (ae HN).symm
 refine⟨_,_,rfl,⟨by rw[hlen];exact (ae HI).1,by simp[hlen],fun i f hi=>?_⟩,(ae HI).2⟩
 have hik:i<k:=by rw[← hlen];exact (List.getElem?_eq_some_iff.1 hi).1
 refine⟨_,_,_,_,by rw[List.getElem?_map,List.getElem?_range hik];rfl,?_⟩
 have h1:=(ae HV i hik).1 wr
 rw[ae HM i] at hi
 cases hq:qs[i]? with
 | none=>rw[hq] at hi;simp at hi
 | some q =>
  rw[hq] at hi h1
  simp only[Option.map_some,Option.some.injEq] at hi
  rw[← hi]
  exact h1)))
open Go.ChangeShapes Go.WideShapes Go.ChangeAt Go.RowKit Go.Joins
set_option linter.unusedVariables false
theorem own:ownKnob prog.godebug=none:=by kernel_rfl
theorem qjz:prog.globalNamed "internal/strconv.uint64pow10" = some 1:=by kernel_rfl
theorem qjs:(prog.globals[1]?).map (·.type)=some 281:=by kernel_rfl
theorem qka:prog.globalNamed "errors.errorType" = some 0:=by kernel_rfl
theorem qjj:(prog.cutTypes.find? (·.1== "internal/reflectlite.rtype")).map (·.2)=some 219:=by kernel_rfl
theorem qiu:((List.range 326).filter fun t=>prog.rowNamed t [101,114,114,111,114])=[29]:=by kernel_rfl
theorem qjh:prog.types.size=326:=by kernel_rfl
theorem qgj:prog.cellsOf 281 = 20:=by kernel_rfl
theorem qjc:prog.cellsOf 23 = 2:=by kernel_rfl
theorem qjd:prog.cellsOf 24 = 1:=by kernel_rfl
theorem qfu:(Rows.laid_internal_strconv_uint64pow10:DataW Unit)=Lib.tabData .u64 Lib.pow10Tab:=by kernel_rfl
theorem qfz {W:World} (h:laidMetH prog [("math/bits.deBruijn32tab",Rows.laid_math_bits_deBruijn32tab),("math/bits.deBruijn64tab",Rows.laid_math_bits_deBruijn64tab),("internal/strconv.uint64pow10",Rows.laid_internal_strconv_uint64pow10),("errors.errorType",Rows.laid_errors_errorType)] W):Lib.TabIs prog W "internal/strconv.uint64pow10" .u64 Lib.pow10Tab∧W.cell? ⟨0,0,none⟩=some (.iface 219 (.agg #[.pointer (some ⟨7,29,none⟩)])):=by(
 have h':laidMet prog [("math/bits.deBruijn32tab",Rows.laid_math_bits_deBruijn32tab),("math/bits.deBruijn64tab",Rows.laid_math_bits_deBruijn64tab),("internal/strconv.uint64pow10",Rows.laid_internal_strconv_uint64pow10)] W∧handlesMet prog [("errors.errorType",Rows.laid_errors_errorType)] W:=h
 refine⟨?_,?_⟩
 ·(
 obtain⟨ps,⟨g0,t0,cs0,f0,p0,q0,-,-,-,-,⟨g1,t1,cs1,f1,p1,q1,-,-,-,-,⟨g2,t2,cs2,f2,p2,q2,hg2,ht2,hv2,hd2,-,-⟩,-⟩,-⟩,-⟩:=h'.1
 obtain rfl:=Option.some.inj (qjz.symm.trans hg2)
 obtain rfl:=Option.some.inj (qjs.symm.trans ht2)
 rw[qfu] at hd2
 unfold Lib.TabIs
 rw[hv2,← Lib.cells_of_tab underlying281 underlying24 qjd qgj hd2])
 ·(
 obtain⟨name,u,ty,e1,e2,e3,e4,e5⟩:=h'.2 _ (List.mem_singleton.2 rfl)
 have en:name=[101,114,114,111,114]:=(Option.some.inj e1).symm
 subst en
 obtain rfl:=Option.some.inj (qjj.symm.trans e2)
 have hm:ty ∈ (List.range 326).filter fun t=>prog.rowNamed t [101,114,114,111,114]:=List.mem_filter.2 ⟨List.mem_range.2 (by rw[← qjh];exact e3),e4⟩
 rw[qiu] at hm
 obtain rfl:=List.mem_singleton.1 hm
 have hh:typeHandle prog 29 = .pointer (some ⟨7,29,none⟩):=by kernel_rfl
 rw[hh] at e5
 simpa using World.var?_cell qka e5 0))
theorem qcx:laidOutB prog=true:=by kernel_rfl
theorem qdy:prog.cellsOf 3 = 1:=by kernel_rfl
theorem zhe {w:World} {a:Addr} {v:Value} (h:w.cell? a=some v):a.spot=none:=by(
 unfold World.cell? at h
 cases hs:a.spot with
 | none=>rfl
 | some _ =>
  rw[hs] at h
  cases hb:w.heap[a.block]? with
  | none=>rw[hb] at h;simp at h
  | some o=>rw[hb] at h;cases o <;> simp at h)
theorem zlh (a:Addr) (k:Nat) (h:(a.add k).spot=none):a.add k=⟨a.block,a.off+k,none⟩∧(0<k∨a.spot=none):=by(
 unfold Addr.add at *
 split at h
 ·(
 rename_i hk
 subst hk
 refine⟨?_,.inr h⟩
 rw[if_pos rfl]
 cases a
 simp only at h
 subst h
 rfl)
 ·rename_i hk
  exact⟨by rw[if_neg hk],.inl (by omega)⟩)
theorem qbo {H:Type} {enc:TypeId × Value→H} {W:World} {v:Value} {d:DataW H} {ps:List MemPlace} (hval:Value.okWide prog W .any 0 41 v) (h:DataW.Trod enc prog W 0 (fun _=>true) true 41 v d ps) :
   ∃ qs:List (Int × Int),zss W v qs∧(∀ q ∈ qs,Fits q)∧∀ x ∈ ps,x.block<W.heap.size:=by(
 obtain⟨a,len,cap,rfl⟩:=okWide_slice underlying41 hval
 obtain⟨fuel,hf⟩:=h
 rcases Deep.open_slice_pairs underlying41 underlying23 qjc rfl rfl qdy qdy hf with ⟨hc,hx⟩|⟨b,len',cap',m,k,V0,V1,D0,D1,P0,P1,hc,-,hl,hm,hmm,hx,hall⟩
 ·(
 have hc':[Value.slice a len cap]=[.slice none 0 0]:=hc
 simp only[List.cons.injEq,Value.slice.injEq,and_true] at hc'
 obtain⟨rfl,rfl,rfl⟩:=hc'
 have:ps=[]:=(Prod.mk.inj hx).2
 subst this
 exact⟨[],⟨none,0,rfl,Nat.le_refl _,fun i q hq=>by simp at hq⟩,fun q hq=>by simp at hq,fun x hx=>by simp at hx⟩)
 ·(
 have hc':[Value.slice a len cap]=[.slice (some b) len' cap']:=hc
 simp only[List.cons.injEq,Value.slice.injEq,and_true] at hc'
 obtain⟨rfl,rfl,rfl⟩:=hc'
 have hlm:len≤m:=by rw[hmm];simpa using hl
 have each:∀ i,i<m→∃ q:Int × Int,Fits q∧W.cell? ⟨b.block,b.off+i*2,none⟩=some (.int .i64 q.1)∧W.cell? ⟨b.block,b.off+i*2+1,none⟩=some (.int .i64 q.2)∧P0 i=[]∧P1 i=[]:=fun i hi=>by
  obtain⟨c0,c1,t0,t1⟩:=hall i hi
  obtain⟨x,e1,e2,w1⟩:=DataW.trod_int underlying3 t0
  obtain⟨y,f1,f2,w2⟩:=DataW.trod_int underlying3 t1
  simp only[List.cons.injEq,and_true] at e1 f1
  rw[(zlh b _ (zhe c0)).1,e1] at c0
  rw[(zlh b _ (zhe c1)).1,f1] at c1
  have Bx:=bounds_i64 w1
  have By:=bounds_i64 w2
  exact⟨(x,y),⟨by omega,by omega,by omega,by omega⟩,c0,c1,(Prod.mk.inj e2).2,(Prod.mk.inj f2).2⟩
 have hspot:0<m→b.spot=none:=fun h0=>by
  obtain⟨c0,-⟩:=hall 0 h0
  have:=(zlh b _ (zhe c0)).2
  simpa using this
 obtain⟨q,hq⟩:=Classical.axiomOfChoice (fun i:Nat=>(by
  by_cases hi:i<m
  ·obtain⟨q,h⟩:=each i hi
   exact⟨q,fun _=>h⟩
  ·exact⟨(0,0),fun h=>absurd h hi⟩:∃ q:Int × Int,i<m→Fits q∧W.cell? ⟨b.block,b.off+i*2,none⟩=some (.int .i64 q.1)∧W.cell? ⟨b.block,b.off+i*2+1,none⟩=some (.int .i64 q.2)∧P0 i=[]∧P1 i=[]))
 refine⟨(List.range len).map q,⟨some b,cap,by simp,by simpa using hl,fun i z hz=>?_⟩,fun z hz=>?_,fun x hx'=>?_⟩
 ·(
 rw[List.getElem?_map] at hz
 by_cases hi:i<len
 ·(
 rw[List.getElem?_range hi,Option.map_some] at hz
 obtain rfl:=Option.some.inj hz
 have hs:=hspot (by omega)
 refine⟨b.block,b.off,?_,(hq i (by omega)).2.1,(hq i (by omega)).2.2.1⟩
 cases b
 simp only at hs
 subst hs
 rfl)
 ·rw[List.getElem?_eq_none (by simpa using hi)] at hz
  simp at hz)
 ·obtain⟨i,hi,rfl⟩:=List.mem_map.1 hz
  exact (hq i (by have:=List.mem_range.1 hi;omega)).1
 ·(
 have hps:ps=MemPlace.row b (m*2)++(List.range m).flatMap fun i=>P0 i++P1 i:=(Prod.mk.inj hx).2
 rw[hps] at hx'
 have hfl:((List.range m).flatMap fun i=>P0 i++P1 i)=[]:=by
  rw[List.flatMap_eq_nil_iff]
  intro i hi
  have h:=hq i (List.mem_range.1 hi)
  rw[h.2.2.2.1,h.2.2.2.2]
  rfl
 rw[hfl,List.append_nil] at hx'
 rcases Nat.eq_zero_or_pos m with h0 | h0
 ·subst h0
  simp[MemPlace.row] at hx'
 ·(
 have hb:b.block<W.heap.size:=by
  have h:=ai (hq 0 h0).2.1
  exact h
 have:x.block=b.block:=by
  unfold MemPlace.row at hx'
  obtain⟨i,-,rfl⟩:=List.mem_map.1 hx'
  rfl
 omega))))
theorem zxr {P:Program} (w:World) (dT sT ty elem:TypeId) (b o dLen dCap:Nat) (a:Addr) (sLen sCap m:Nat) (cs:List Value)
   (hu:P.underlying dT=some (.slice elem)) (hs:(P.info? elem).map (·.size)=some 4) (hm:m=Nat.min sLen dLen) (hn:cs.length=m*4)
   (hsrc:∀ j v,cs[j]? = some v→w.cell? (a.add j)=some v) (hc:∀ j,j<cs.length→(w.cell? ⟨b,o+j,none⟩).isSome=true) (hf:∀ j,j<cs.length→w.frozen? ⟨b,o+j,none⟩=false) (h1:∀ v ∈ cs,v.oneCell'=true) :
   (Builtin.copy_ #[dT,sT] ty #[.slice (some ⟨b,o,none⟩) dLen dCap,.slice (some a) sLen sCap]).run P w=.ok (goInt m) (w.setCells b o cs):=by(
 have hl:=run_loadCells_list (P:=P) w a cs hsrc
 have hst:=run_storeCells_cells (P:=P) b o cs 0 w (by simpa using hc) (by simpa using hf) h1
 cases hq:P.info? elem with
 | none=>simp[hq] at hs
 | some i =>
  have hi:i.size=4:=by simpa [hq] using hs
  rw[hn] at hl
  simp[Builtin.copy_,run_underlying hu,Builtin.lenOf,Builtin.firstCells,sizeOf,typeInfo,hq,hi,← hm,hl,hst])
theorem P4o.at {w:World} {b o:Nat} {s:Bool} {x y:Int} {p:Option Addr} (h:P4o w b o s x y p) (c:Nat) (hc:c<4):w.cell? ⟨b,o+c,none⟩=(#[Value.bool s,.int .u64 x,.int .u64 y,.pointer p]:Array Value)[c]?:=by(
 have:c=0∨c=1∨c=2∨c=3:=by omega
 rcases this with rfl|rfl|rfl|rfl
 ·exact h.1
 ·exact h.2.1
 ·exact h.2.2.1
 ·exact h.2.2.2)
theorem qdp (w:World) (gs gd n m:Nat) (F:Nat→Rat) (hs:zcd w gs n n F) (hd:pq w gd m (fun _=>0)) (hnm:n≤m) (h0:0<m) (hne:gs≠gd) (ty:TypeId) :
   ∃ w',(Builtin.copy_ #[46,46] ty #[.slice (some ⟨gd,0,none⟩) m m,.slice (some ⟨gs,0,none⟩) n n]).run prog w=.ok (goInt n) w'∧pq w' gd m (fun i=>if i<n then F i else 0)∧But [gd] w w':=by(
 obtain⟨cs,hcs⟩:∃ cs:List Value,cs=(List.range (n*4)).map (fun j=>(w.cell? ⟨gs,j,none⟩).getD (.bool false)):=⟨_,rfl⟩
 have hl:cs.length=n*4:=by rw[hcs];simp
 have hat:∀ j,j<n*4→∃ v,cs[j]? = some v∧w.cell? ⟨gs,j,none⟩=some v∧v.oneCell'=true:=fun j hj=>by
  obtain⟨s,x,y,p,hp,-⟩:=hs.told (j/4) (by omega)
  have hc:=hp.at (j%4) (by omega)
  rw[show j/4*4+j%4=j from by omega] at hc
  have:j%4=0∨j%4=1∨j%4=2∨j%4=3:=by omega
  have he:cs[j]? = some ((w.cell? ⟨gs,j,none⟩).getD (.bool false)):=by
   rw[hcs,List.getElem?_map,List.getElem?_range hj];rfl
  rcases this with e | e | e | e <;> rw[e] at hc <;> rw[hc] at he ⊢ <;> exact⟨_,he,rfl,rfl⟩
 have hsome:∀ j,j<m*4→(w.cell? ⟨gd,0+j,none⟩).isSome=true:=fun j hj=>by
  obtain⟨s,x,y,p,hp,-⟩:=hd.told (j/4) (by omega)
  have hc:=hp.at (j%4) (by omega)
  rw[show j/4*4+j%4=0+j from by omega] at hc
  rw[hc]
  have:j%4=0∨j%4=1∨j%4=2∨j%4=3:=by omega
  rcases this with e | e | e | e <;> rw[e] <;> rfl
 obtain⟨c,hc⟩:=hd.bool h0
 have hb:But [gd] w (w.setCells gd 0 cs):=bk w gd cs 0
 refine⟨w.setCells gd 0 cs,zxr w 46 46 ty 27 gd 0 m m ⟨gs,0,none⟩ n n n cs (by kernel_rfl) (by kernel_rfl) (Nat.min_eq_left hnm).symm hl ?_ (fun j hj=>hsome j (by omega)) (fun j _=>hd.loose _) ?_,⟨fun j hj=>?_,fun o=>by rw[World.frozen?_setCells];exact hd.loose o⟩,hb⟩
 ·(
 intro j v hv
 have hj:j<n*4:=by rw[← hl];exact (List.getElem?_eq_some_iff.1 hv).1
 obtain⟨v',h1,h2,-⟩:=hat j hj
 rw[hv] at h1
 obtain rfl:=Option.some.inj h1
 have e:(⟨gs,0,none⟩:Addr).add j=⟨gs,j,none⟩:=by by_cases hz:j=0 <;> simp[Addr.add,hz]
 rw[e]
 exact h2)
 ·(
 intro v hv
 obtain⟨j,hj⟩:=List.mem_iff_getElem?.1 hv
 have hj2:j<n*4:=by rw[← hl];exact (List.getElem?_eq_some_iff.1 hj).1
 obtain⟨v',h1,-,h2⟩:=hat j hj2
 rw[hj] at h1
 obtain rfl:=Option.some.inj h1
 exact h2)
 ·(
 by_cases hjn:j<n
 ·(
 rw[if_pos hjn]
 obtain⟨s,x,y,p,hp,hf⟩:=hs.told j hjn
 have hin:∀ k,k<4→(w.setCells gd 0 cs).cell? ⟨gd,j*4+k,none⟩=w.cell? ⟨gs,j*4+k,none⟩:=fun k hk=>by
  obtain⟨v',h1,h2,-⟩:=hat (j*4+k) (by omega)
  have h3:=World.cell?_setCells_in gd cs 0 w (fun i hi=>hsome i (by omega)) (j*4+k) (by omega)
  rw[Nat.zero_add] at h3
  rw[h3,h2,← h1,List.getElem?_eq_getElem]
 exact⟨s,x,y,p,⟨(hin 0 (by omega)).trans hp.1,(hin 1 (by omega)).trans hp.2.1,(hin 2 (by omega)).trans hp.2.2.1,(hin 3 (by omega)).trans hp.2.2.2⟩,hf.over hc hb⟩)
 ·rw[if_neg hjn]
  obtain⟨s,x,y,p,hp,hf⟩:=hd.told j hj
  have hout:∀ o,n*4≤o→(w.setCells gd 0 cs).cell? ⟨gd,o,none⟩=w.cell? ⟨gd,o,none⟩:=fun o ho=>World.cell?_setCells_out gd _ 0 w _ (fun _ _=>by simp;omega)
  exact⟨s,x,y,p,⟨(hout _ (by omega)).trans hp.1,(hout _ (by omega)).trans hp.2.1,(hout _ (by omega)).trans hp.2.2.1,(hout _ (by omega)).trans hp.2.2.2⟩,hf.over hc hb⟩))
def zha (w:World) (v:Value) (ls:List (List Rat)):Prop:=∃ a cap,v=.slice a ls.length cap∧ls.length≤cap∧∀ i l,ls[i]? = some l→∃ b off u,a=some ⟨b,off,none⟩∧w.cell? ⟨b,off+i,none⟩=some u∧aq w u l
theorem zha.get {w:World} {q:Option Addr} {n cap:Nat} {ls:List (List Rat)} (h:zha w (.slice q n cap) ls) (i:Nat) (hi:i<ls.length):∃ b off u,q=some ⟨b,off,none⟩∧w.cell? ⟨b,off+i,none⟩=some u∧aq w u (ls[i]?.getD []):=by(
 obtain⟨a,cap',e,-,h⟩:=h
 simp only[Value.slice.injEq] at e
 obtain⟨rfl,rfl,-⟩:=e
 obtain⟨b,off,u,e1,h1,h2⟩:=h i ls[i] (List.getElem?_eq_getElem hi)
 exact⟨b,off,u,e1,h1,by rw[List.getElem?_eq_getElem hi];exact h2⟩)
theorem zzg {qs:List (Int × Int)} (hf:∀ q ∈ qs,Fits q):∀ r ∈ qs.map qf,Len r 1:=fun r hr=>by
 obtain⟨q,hq,rfl⟩:=List.mem_map.1 hr
 obtain⟨-,-,-,h,-⟩:=zhk q (hf q hq)
 exact h
theorem zon (v:Value) (qs:List (Int × Int)) (w:World) (hq:zss w v qs) (hf:∀ q ∈ qs,Fits q) (hn:qs.length≤1000) :
   Calls prog 18 #[v] w fun e w'=>∃ v',e=.returned v'∧aq w' v' (qs.map qf)∧But [] w w':=by(
 have FS:=af (zrd v qs w hq hf hn)
 obtain⟨a,cap,rfl,-,-⟩:=hq
 clear hf
 go_enter func18,ntmps18
 go_wp2_with fail
 refine (ae FS).mono ?_
 rintro e w1 ⟨v',vs,rfl,hh,hb⟩
 have H1:=af hh
 have B1:=af hb
 clear hh hb
 go_wp2
 go_ret
 exact⟨_,rfl,(ae H1).zrz,ae B1⟩)
end Go.Proofs.YtagmkkiagjmimaaGreatDoor
