/- What the rows of the laws of package cla -/
import Derived.Test.YthlnhheblhapgaaGreatDoorRows
import Derived.Test.YthlnhheblhapgaaGreatDoorTie
import Derived.Test.YthlnhheblhapgaaGreatDoorCards
import Derived.Lib.SmallJoins
import Derived.ProofKit
import Derived.OpenShut
import Derived.LaidMore
import Derived.LaidHandle
import Derived.Stop.Joined
import Derived.SevenTiedAt
import Derived.Deep.SlicePairs
import Derived.Carry
import Derived.Shelf.Vars
import Derived.Deep.DeepHandedRow
import Derived.Test.YthlnhheblhapgaaGreatDoorKMPFr
namespace Go.Proofs.YthlnhheblhapgaaGreatDoor
open Go.ChangeShapes Go.WideShapes Go.ChangeAt Go.RowKit Go.Joins
set_option maxRecDepth 100000
set_option linter.unusedVariables false
theorem own:ownKnob Tryz.prog.godebug=none:=by kernel_rfl
theorem gPow:Tryz.prog.globalNamed "internal/strconv.uint64pow10" = some 3:=by kernel_rfl
theorem tPow:(Tryz.prog.globals[3]?).map (·.type)=some 188:=by kernel_rfl
theorem gErr:Tryz.prog.globalNamed "errors.errorType" = some 0:=by kernel_rfl
theorem rtErr:(Tryz.prog.cutTypes.find? (·.1== "internal/reflectlite.rtype")).map (·.2)=some 144:=by kernel_rfl
theorem oneRow:((List.range 233).filter fun t=>Tryz.prog.rowNamed t [101,114,114,111,114])=[34]:=by kernel_rfl
theorem tsize:Tryz.prog.types.size=233:=by kernel_rfl
theorem cells20:Tryz.prog.cellsOf 188 = 20:=by kernel_rfl
theorem cellsQ:Tryz.prog.cellsOf 59 = 2:=by kernel_rfl
theorem cells1:Tryz.prog.cellsOf 38 = 1:=by kernel_rfl
theorem powData:(Rows.laid_internal_strconv_uint64pow10:DataW Unit)=Lib.tabData .u64 Lib.pow10Tab:=by kernel_rfl
theorem of_laid {W:World} (h:laidMetH Tryz.prog [("math/bits.deBruijn32tab",Rows.laid_math_bits_deBruijn32tab),("math/bits.deBruijn64tab",Rows.laid_math_bits_deBruijn64tab),("internal/strconv.uint64pow10",Rows.laid_internal_strconv_uint64pow10),("errors.errorType",Rows.laid_errors_errorType)] W):Lib.TabIs Tryz.prog W "internal/strconv.uint64pow10" .u64 Lib.pow10Tab∧W.cell? ⟨0,0,none⟩=some (.iface 144 (.agg #[.pointer (some ⟨7,34,none⟩)])):=by
 have h':laidMet Tryz.prog [("math/bits.deBruijn32tab",Rows.laid_math_bits_deBruijn32tab),("math/bits.deBruijn64tab",Rows.laid_math_bits_deBruijn64tab),("internal/strconv.uint64pow10",Rows.laid_internal_strconv_uint64pow10)] W∧handlesMet Tryz.prog [("errors.errorType",Rows.laid_errors_errorType)] W:=h
 refine ⟨?_,?_⟩
 ·obtain ⟨ps,⟨g0,t0,cs0,f0,p0,q0,-,-,-,-,⟨g1,t1,cs1,f1,p1,q1,-,-,-,-,⟨g2,t2,cs2,f2,p2,q2,hg2,ht2,hv2,hd2,-,-⟩,-⟩,-⟩,-⟩:=h'.1
  obtain rfl:=Option.some.inj (gPow.symm.trans hg2)
  obtain rfl:=Option.some.inj (tPow.symm.trans ht2)
  rw [powData] at hd2
  unfold Lib.TabIs
  rw [hv2,← Lib.cells_of_tab Tryz.underlying188 Tryz.underlying38 cells1 cells20 hd2]
 ·obtain ⟨name,u,ty,e1,e2,e3,e4,e5⟩:=h'.2 _ (List.mem_singleton.2 rfl)
  have en:name=[101,114,114,111,114]:=(Option.some.inj e1).symm
  subst en
  obtain rfl:=Option.some.inj (rtErr.symm.trans e2)
  have hm:ty ∈ (List.range 233).filter fun t=>Tryz.prog.rowNamed t [101,114,114,111,114]:=List.mem_filter.2 ⟨List.mem_range.2 (by rw [← tsize];exact e3),e4⟩
  rw [oneRow] at hm
  obtain rfl:=List.mem_singleton.1 hm
  have hh:typeHandle Tryz.prog 34 = .pointer (some ⟨7,34,none⟩):=by kernel_rfl
  rw [hh] at e5
  simpa using World.var?_cell gErr e5 0
theorem laid_out:laidOutB Tryz.prog=true:=by kernel_rfl
theorem cellsI:Tryz.prog.cellsOf 3 = 1:=by kernel_rfl
theorem spot_none {w:World} {a:Addr} {v:Value} (h:w.cell? a=some v):a.spot=none:=by
 unfold World.cell? at h
 cases hs:a.spot with
 | none=>rfl
 | some _ =>
  rw [hs] at h
  cases hb:w.heap[a.block]? with
  | none=>rw [hb] at h;simp at h
  | some o=>rw [hb] at h;cases o <;> simp at h
theorem add_none (a:Addr) (k:Nat) (h:(a.add k).spot=none):a.add k=⟨a.block,a.off+k,none⟩∧(0<k∨a.spot=none):=by
 unfold Addr.add at *
 split at h
 ·rename_i hk
  subst hk
  refine ⟨?_,.inr h⟩
  rw [if_pos rfl]
  cases a
  simp only at h
  subst h
  rfl
 ·rename_i hk
  exact ⟨by rw [if_neg hk],.inl (by omega)⟩
theorem max_some {w:World} (h:w.ShapedOpen Tryz.prog):∃ m,w.cell? ⟨4,0,none⟩=some (.int .i64 m):=by
 have hs:Tryz.prog.globals.size=7:=by kernel_rfl
 have hg : 4 < Tryz.prog.globals.size:=by rw [hs];decide
 have h0:((begin Tryz.prog (fun _ _=>0) default).world.heap[4]?).bind Obj.row? = some (#[.int .i64 0],3):=by kernel_rfl
 have hb:Tryz.prog.buildable 3 = true:=by kernel_rfl
 have hc:Tryz.prog.cellTypes Tryz.prog.depth 3 = some [3]:=by kernel_rfl
 have hu:Tryz.prog.underlying 3 = some (.int .i64):=by kernel_rfl
 exact cell_of_shapedOpen_int h hg h0 rfl hb hc hu
end Go.Proofs.YthlnhheblhapgaaGreatDoor

namespace Go.Proofs.YthlnhheblhapgaaGreatDoor
open Go.ChangeShapes Go.WideShapes Go.ChangeAt Go.RowKit Go.Joins
set_option maxRecDepth 100000
theorem bulk_two {H:Type}:∀ (l r:List (DataW H)),Rows.uptoBulkAll (l++r)=Rows.uptoBulkAll l+Rows.uptoBulkAll r
 | [],r=>by rw [List.nil_append,Rows.uptoBulkAll];omega
 | x::l,r=>by
  rw [List.cons_append,Rows.uptoBulkAll,Rows.uptoBulkAll,bulk_two l r];omega
theorem bulk_sum {H:Type} (f:Nat→DataW H) (g:Nat→Nat):∀ n,(∀ i,i<n→g i+1≤Rows.uptoBulk (f i))→sgN g n+n≤Rows.uptoBulkAll ((List.range n).map f)
 | 0,_=>Nat.zero_le _
 | n+1,h=>by
  have ih:=bulk_sum f g n (fun i hi=>h i (by omega))
  have hn:=h n (by omega)
  have e:sgN g (n+1)=sgN g n+g n:=rfl
  rw [List.range_succ,List.map_append,bulk_two,List.map_cons,List.map_nil,Rows.uptoBulkAll,Rows.uptoBulkAll]
  omega
theorem sgN_nought:∀ n,sgN (fun _=>0) n=0
 | 0=>rfl
 | n+1=>by
  show sgN (fun _=>0) n+0=0
  rw [sgN_nought n]
theorem bulk_slice {H:Type} (l r:List (DataW H)) (n:Nat) (h:n≤Rows.uptoBulkAll l):n+1≤Rows.uptoBulk (.slice l r):=by
 rw [Rows.uptoBulk];omega
theorem pairs_inT {H:Type} {enc:TypeId × Value→H} {W:World} {v:Value} {d:DataW H} {ps:List MemPlace} {fuel:Nat} (hf:DataW.trod enc Tryz.prog W 0 (fun _=>true) true fuel 23 [v]=some (d,ps)) :
  ∃ qs:List (Int × Int),QsAt W v qs∧(∀ q ∈ qs,Fits q)∧(∀ x ∈ ps,x.block<W.heap.size)∧qs.length+1≤Rows.uptoBulk d:=by
 rcases Deep.open_slice_pairs Tryz.underlying23 Tryz.underlying59 cellsQ rfl rfl cellsI cellsI hf with ⟨hc,hx⟩ | ⟨b,len,cap,m,k,V0,V1,D0,D1,P0,P1,hc,-,hl,hm,hmm,hx,hall⟩
 ·simp only [List.cons.injEq,and_true] at hc
  subst hc
  obtain ⟨rfl,rfl⟩:=Prod.mk.inj hx
  exact ⟨[],⟨none,0,rfl,Nat.le_refl _,fun i q hq=>by simp at hq⟩,fun q hq=>by simp at hq,fun x hx=>by simp at hx,by rw [Rows.uptoBulk];exact Nat.le_refl _⟩
 ·simp only [List.cons.injEq,and_true] at hc
  subst hc
  have hlm:len≤m:=by rw [hmm];simpa using hl
  have each:∀ i,i<m→∃ q:Int × Int,Fits q∧W.cell? ⟨b.block,b.off+i*2,none⟩=some (.int .i64 q.1)∧W.cell? ⟨b.block,b.off+i*2+1,none⟩=some (.int .i64 q.2)∧P0 i=[]∧P1 i=[]:=fun i hi=>by
   obtain ⟨c0,c1,t0,t1⟩:=hall i hi
   obtain ⟨x,e1,e2,w1⟩:=DataW.trod_int Tryz.underlying3 t0
   obtain ⟨y,f1,f2,w2⟩:=DataW.trod_int Tryz.underlying3 t1
   simp only [List.cons.injEq,and_true] at e1 f1
   rw [(add_none b _ (spot_none c0)).1,e1] at c0
   rw [(add_none b _ (spot_none c1)).1,f1] at c1
   have Bx:=bounds_i64 w1
   have By:=bounds_i64 w2
   exact ⟨(x,y),⟨by omega,by omega,by omega,by omega⟩,c0,c1,(Prod.mk.inj e2).2,(Prod.mk.inj f2).2⟩
  have hspot:0<m→b.spot=none:=fun h0=>by
   obtain ⟨c0,-⟩:=hall 0 h0
   have:=(add_none b _ (spot_none c0)).2
   simpa using this
  obtain ⟨q,hq⟩:=Classical.axiomOfChoice (fun i:Nat=>(by
   by_cases hi:i<m
   ·obtain ⟨q,h⟩:=each i hi
    exact ⟨q,fun _=>h⟩
   ·exact ⟨(0,0),fun h=>absurd h hi⟩:∃ q:Int × Int,i<m→Fits q∧W.cell? ⟨b.block,b.off+i*2,none⟩=some (.int .i64 q.1)∧W.cell? ⟨b.block,b.off+i*2+1,none⟩=some (.int .i64 q.2)∧P0 i=[]∧P1 i=[]))
  obtain ⟨hd,hps⟩:=Prod.mk.inj hx
  refine ⟨(List.range len).map q,⟨some b,cap,by simp,by simpa using hl,fun i z hz=>?_⟩,fun z hz=>?_,fun x hx'=>?_,?_⟩
  ·rw [List.getElem?_map] at hz
   by_cases hi:i<len
   ·rw [List.getElem?_range hi,Option.map_some] at hz
    obtain rfl:=Option.some.inj hz
    have hs:=hspot (by omega)
    refine ⟨b.block,b.off,?_,(hq i (by omega)).2.1,(hq i (by omega)).2.2.1⟩
    cases b
    simp only at hs
    subst hs
    rfl
   ·rw [List.getElem?_eq_none (by simpa using hi)] at hz
    simp at hz
  ·obtain ⟨i,hi,rfl⟩:=List.mem_map.1 hz
   exact (hq i (by have:=List.mem_range.1 hi;omega)).1
  ·rw [hps] at hx'
   have hfl:((List.range m).flatMap fun i=>P0 i++P1 i)=[]:=by
    rw [List.flatMap_eq_nil_iff]
    intro i hi
    have h:=hq i (List.mem_range.1 hi)
    rw [h.2.2.2.1,h.2.2.2.2]
    rfl
   rw [hfl,List.append_nil] at hx'
   rcases Nat.eq_zero_or_pos m with h0 | h0
   ·subst h0
    simp [MemPlace.row] at hx'
   ·have hb:b.block<W.heap.size:=by
     have h:=lt_of_cell (hq 0 h0).2.1
     exact h
    have:x.block=b.block:=by
     unfold MemPlace.row at hx'
     obtain ⟨i,-,rfl⟩:=List.mem_map.1 hx'
     rfl
    omega
  ·rw [hd]
   refine bulk_slice _ _ _ ?_
   rw [List.length_map,List.length_range]
   have:=bulk_sum (fun i=>(.agg [D0 i,D1 i]:DataW H)) (fun _=>0) len (fun i _=>by rw [Rows.uptoBulk];omega)
   rw [sgN_nought] at this
   omega
theorem cellsS:Tryz.prog.cellsOf 23 = 1:=by kernel_rfl
theorem rows_inT {H:Type} {enc:TypeId × Value→H} {W:World} {v:Value} {d:DataW H} {ps:List MemPlace} {fuel:Nat} (hf:DataW.trod enc Tryz.prog W 0 (fun _=>true) true fuel 50 [v]=some (d,ps)) :
  ∃ rs:List (List (Int × Int)),QrowsAt W v rs∧(∀ r ∈ rs,∀ z ∈ r,Fits z)∧(∀ x ∈ ps,x.block<W.heap.size)∧rs.length+tot2 rs rs.length+1≤Rows.uptoBulk d:=by
 rcases Deep.open_slice1 Tryz.underlying50 cellsS hf with ⟨hc,hx⟩ | ⟨b,len,cap,m,k,V,D,Pl,hc,-,hl,-,hmm,hx,hall⟩
 ·simp only [List.cons.injEq,and_true] at hc
  subst hc
  obtain ⟨rfl,rfl⟩:=Prod.mk.inj hx
  exact ⟨[],⟨none,0,rfl,fun i q hq=>by simp at hq⟩,fun q hq=>by simp at hq,fun x hx=>by simp at hx,by rw [Rows.uptoBulk];exact Nat.le_refl _⟩
 ·simp only [List.cons.injEq,and_true] at hc
  subst hc
  have hlm:len≤m:=by rw [hmm];simpa using hl
  have each:∀ i,i<m→∃ q:List (Int × Int),W.cell? ⟨b.block,b.off+i,none⟩=some (V i)∧QsAt W (V i) q∧(∀ z ∈ q,Fits z)∧(∀ x ∈ Pl i,x.block<W.heap.size)∧q.length+1≤Rows.uptoBulk (D i):=fun i hi=>by
   obtain ⟨c0,t0⟩:=hall i hi
   obtain ⟨q,h1,h2,h3,h4⟩:=pairs_inT t0
   rw [(add_none b _ (spot_none c0)).1] at c0
   exact ⟨q,c0,h1,h2,h3,h4⟩
  have hspot:0<m→b.spot=none:=fun h0=>by
   obtain ⟨c0,-⟩:=hall 0 h0
   have:=(add_none b _ (spot_none c0)).2
   simpa using this
  obtain ⟨q,hq⟩:=Classical.axiomOfChoice (fun i:Nat=>(by
   by_cases hi:i<m
   ·obtain ⟨q,h⟩:=each i hi
    exact ⟨q,fun _=>h⟩
   ·exact ⟨[],fun h=>absurd h hi⟩:∃ q:List (Int × Int),i<m→W.cell? ⟨b.block,b.off+i,none⟩=some (V i)∧QsAt W (V i) q∧(∀ z ∈ q,Fits z)∧(∀ x ∈ Pl i,x.block<W.heap.size)∧q.length+1≤Rows.uptoBulk (D i)))
  obtain ⟨hd,hps⟩:=Prod.mk.inj hx
  refine ⟨(List.range len).map q,⟨some b,cap,by simp,fun i z hz=>?_⟩,fun r hr z hz=>?_,fun x hx'=>?_,?_⟩
  ·rw [List.getElem?_map] at hz
   by_cases hi:i<len
   ·rw [List.getElem?_range hi,Option.map_some] at hz
    obtain rfl:=Option.some.inj hz
    have hs:=hspot (by omega)
    refine ⟨b.block,b.off,V i,?_,(hq i (by omega)).1,(hq i (by omega)).2.1⟩
    cases b
    simp only at hs
    subst hs
    rfl
   ·rw [List.getElem?_eq_none (by simpa using hi)] at hz
    simp at hz
  ·obtain ⟨i,hi,rfl⟩:=List.mem_map.1 hr
   exact (hq i (by have:=List.mem_range.1 hi;omega)).2.2.1 z hz
  ·rw [hps] at hx'
   rcases List.mem_append.1 hx' with h1 | h1
   ·rcases Nat.eq_zero_or_pos m with h0 | h0
    ·subst h0
     simp [MemPlace.row] at h1
    ·have hb:b.block<W.heap.size:=by
      have h:=lt_of_cell (hq 0 h0).1
      exact h
     have:x.block=b.block:=by
      unfold MemPlace.row at h1
      obtain ⟨i,-,rfl⟩:=List.mem_map.1 h1
      rfl
     omega
   ·obtain ⟨i,hi,hxi⟩:=List.mem_flatMap.1 h1
    exact (hq i (List.mem_range.1 hi)).2.2.2.1 x hxi
  ·rw [hd]
   have h1:=bulk_sum D (fun i=>(((List.range len).map q)[i]?.getD []).length) len (fun i hi=>by
    rw [List.getElem?_map,List.getElem?_range hi]
    exact (hq i (by omega)).2.2.2.2)
   refine bulk_slice _ _ _ ?_
   rw [List.length_map,List.length_range]
   unfold tot2
   omega
theorem cellsS2:Tryz.prog.cellsOf 50 = 1:=by kernel_rfl
theorem years_in {H:Type} {enc:TypeId × Value→H} {W:World} {v:Value} {d:DataW H} {ps:List MemPlace} (hval:Value.okWide Tryz.prog W .any 0 22 v) (h:DataW.Trod enc Tryz.prog W 0 (fun _=>true) true 22 v d ps) :
  ∃ rs:List (List (List (Int × Int))),QyearsAt W v rs∧(∀ s ∈ rs,∀ r ∈ s,∀ z ∈ r,Fits z)∧(∀ x ∈ ps,x.block<W.heap.size)∧rs.length+tot3 rs rs.length+1≤Rows.uptoBulk d:=by
 obtain ⟨a,len,cap,rfl⟩:=okWide_slice Tryz.underlying22 hval
 obtain ⟨fuel,hf⟩:=h
 rcases Deep.open_slice1 Tryz.underlying22 cellsS2 hf with ⟨hc,hx⟩ | ⟨b,len',cap',m,k,V,D,Pl,hc,-,hl,-,hmm,hx,hall⟩
 ·have hc':[Value.slice a len cap]=[.slice none 0 0]:=hc
  simp only [List.cons.injEq,Value.slice.injEq,and_true] at hc'
  obtain ⟨rfl,rfl,rfl⟩:=hc'
  obtain ⟨rfl,rfl⟩:=Prod.mk.inj hx
  exact ⟨[],⟨none,0,rfl,fun i q hq=>by simp at hq⟩,fun q hq=>by simp at hq,fun x hx=>by simp at hx,by rw [Rows.uptoBulk];exact Nat.le_refl _⟩
 ·have hc':[Value.slice a len cap]=[.slice (some b) len' cap']:=hc
  simp only [List.cons.injEq,Value.slice.injEq,and_true] at hc'
  obtain ⟨rfl,rfl,rfl⟩:=hc'
  have hlm:len≤m:=by rw [hmm];simpa using hl
  have each:∀ i,i<m→∃ q:List (List (Int × Int)),W.cell? ⟨b.block,b.off+i,none⟩=some (V i)∧QrowsAt W (V i) q∧(∀ r ∈ q,∀ z ∈ r,Fits z)∧(∀ x ∈ Pl i,x.block<W.heap.size)∧q.length+tot2 q q.length+1≤Rows.uptoBulk (D i):=fun i hi=>by
   obtain ⟨c0,t0⟩:=hall i hi
   obtain ⟨q,h1,h2,h3,h4⟩:=rows_inT t0
   rw [(add_none b _ (spot_none c0)).1] at c0
   exact ⟨q,c0,h1,h2,h3,h4⟩
  have hspot:0<m→b.spot=none:=fun h0=>by
   obtain ⟨c0,-⟩:=hall 0 h0
   have:=(add_none b _ (spot_none c0)).2
   simpa using this
  obtain ⟨q,hq⟩:=Classical.axiomOfChoice (fun i:Nat=>(by
   by_cases hi:i<m
   ·obtain ⟨q,h⟩:=each i hi
    exact ⟨q,fun _=>h⟩
   ·exact ⟨[],fun h=>absurd h hi⟩:∃ q:List (List (Int × Int)),i<m→W.cell? ⟨b.block,b.off+i,none⟩=some (V i)∧QrowsAt W (V i) q∧(∀ r ∈ q,∀ z ∈ r,Fits z)∧(∀ x ∈ Pl i,x.block<W.heap.size)∧q.length+tot2 q q.length+1≤Rows.uptoBulk (D i)))
  obtain ⟨hd,hps⟩:=Prod.mk.inj hx
  refine ⟨(List.range len).map q,⟨some b,cap,by simp,fun i z hz=>?_⟩,fun s hs r hr z hz=>?_,fun x hx'=>?_,?_⟩
  ·rw [List.getElem?_map] at hz
   by_cases hi:i<len
   ·rw [List.getElem?_range hi,Option.map_some] at hz
    obtain rfl:=Option.some.inj hz
    have hs:=hspot (by omega)
    refine ⟨b.block,b.off,V i,?_,(hq i (by omega)).1,(hq i (by omega)).2.1⟩
    cases b
    simp only at hs
    subst hs
    rfl
   ·rw [List.getElem?_eq_none (by simpa using hi)] at hz
    simp at hz
  ·obtain ⟨i,hi,rfl⟩:=List.mem_map.1 hs
   exact (hq i (by have:=List.mem_range.1 hi;omega)).2.2.1 r hr z hz
  ·rw [hps] at hx'
   rcases List.mem_append.1 hx' with h1 | h1
   ·rcases Nat.eq_zero_or_pos m with h0 | h0
    ·subst h0
     simp [MemPlace.row] at h1
    ·have hb:b.block<W.heap.size:=by
      have h:=lt_of_cell (hq 0 h0).1
      exact h
     have:x.block=b.block:=by
      unfold MemPlace.row at h1
      obtain ⟨i,-,rfl⟩:=List.mem_map.1 h1
      rfl
     omega
   ·obtain ⟨i,hi,hxi⟩:=List.mem_flatMap.1 h1
    exact (hq i (List.mem_range.1 hi)).2.2.2.1 x hxi
  ·rw [hd]
   have h1:=bulk_sum D (fun i=>(((List.range len).map q)[i]?.getD []).length+tot2 (((List.range len).map q)[i]?.getD []) (((List.range len).map q)[i]?.getD []).length) len (fun i hi=>by
    rw [List.getElem?_map,List.getElem?_range hi]
    exact (hq i (by omega)).2.2.2.2)
   refine bulk_slice _ _ _ ?_
   rw [List.length_map,List.length_range]
   unfold tot3
   omega
end Go.Proofs.YthlnhheblhapgaaGreatDoor
