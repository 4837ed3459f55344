/- What the rows of the laws of package cla -/
import Derived.Test.YtagmkkiagjmimaaGreatDoorRows
import Derived.Test.YtagmkkiagjmimaaGreatDoorTie
import Derived.Test.YtagmkkiagjmimaaGreatDoorCards
import Derived.Lib.SmallJoins
import Derived.ProofKit
import Derived.OpenShut
import Derived.LaidMore
import Derived.LaidHandle
import Derived.Stop.Joined
import Derived.SevenTiedAt
import Derived.Deep.SlicePairs
import Derived.Carry
import Derived.Shelf.Vars
import Derived.Test.YtagmkkiagjmimaaGreatDoorXT3
namespace Go.Proofs.YtagmkkiagjmimaaGreatDoor
open Go.Proofs.Tryz
open Go.ChangeShapes Go.WideShapes Go.ChangeAt Go.RowKit Go.Joins
set_option maxRecDepth 100000
set_option linter.unusedVariables false
theorem own:ownKnob prog.godebug=none:=by kernel_rfl
theorem qik:prog.globalNamed "internal/strconv.uint64pow10" = some 1:=by kernel_rfl
theorem qig:(prog.globals[1]?).map (·.type)=some 281:=by kernel_rfl
theorem qil:prog.globalNamed "errors.errorType" = some 0:=by kernel_rfl
theorem qhx:(prog.cutTypes.find? (·.1== "internal/reflectlite.rtype")).map (·.2)=some 219:=by kernel_rfl
theorem qhh:((List.range 326).filter fun t=>prog.rowNamed t [101,114,114,111,114])=[29]:=by kernel_rfl
theorem qhv:prog.types.size=326:=by kernel_rfl
theorem qew:prog.cellsOf 281 = 20:=by kernel_rfl
theorem qho:prog.cellsOf 23 = 2:=by kernel_rfl
theorem qhp:prog.cellsOf 24 = 1:=by kernel_rfl
theorem qeg:(Rows.laid_internal_strconv_uint64pow10:DataW Unit)=Lib.tabData .u64 Lib.pow10Tab:=by kernel_rfl
theorem qek {W:World} (h:laidMetH prog [("math/bits.deBruijn32tab",Rows.laid_math_bits_deBruijn32tab),("math/bits.deBruijn64tab",Rows.laid_math_bits_deBruijn64tab),("internal/strconv.uint64pow10",Rows.laid_internal_strconv_uint64pow10),("errors.errorType",Rows.laid_errors_errorType)] W):Lib.TabIs prog W "internal/strconv.uint64pow10" .u64 Lib.pow10Tab∧W.cell? ⟨0,0,none⟩=some (.iface 219 (.agg #[.pointer (some ⟨7,29,none⟩)])):=by(
 have h':laidMet prog [("math/bits.deBruijn32tab",Rows.laid_math_bits_deBruijn32tab),("math/bits.deBruijn64tab",Rows.laid_math_bits_deBruijn64tab),("internal/strconv.uint64pow10",Rows.laid_internal_strconv_uint64pow10)] W∧handlesMet prog [("errors.errorType",Rows.laid_errors_errorType)] W:=h
 refine⟨?_,?_⟩
 ·(
 obtain⟨ps,⟨g0,t0,cs0,f0,p0,q0,-,-,-,-,⟨g1,t1,cs1,f1,p1,q1,-,-,-,-,⟨g2,t2,cs2,f2,p2,q2,hg2,ht2,hv2,hd2,-,-⟩,-⟩,-⟩,-⟩:=h'.1
 obtain rfl:=Option.some.inj (qik.symm.trans hg2)
 obtain rfl:=Option.some.inj (qig.symm.trans ht2)
 rw[qeg] at hd2
 unfold Lib.TabIs
 rw[hv2,← Lib.cells_of_tab underlying281 underlying24 qhp qew hd2])
 ·(
 obtain⟨name,u,ty,e1,e2,e3,e4,e5⟩:=h'.2 _ (List.mem_singleton.2 rfl)
 have en:name=[101,114,114,111,114]:=(Option.some.inj e1).symm
 subst en
 obtain rfl:=Option.some.inj (qhx.symm.trans e2)
 have hm:ty ∈ (List.range 326).filter fun t=>prog.rowNamed t [101,114,114,111,114]:=List.mem_filter.2 ⟨List.mem_range.2 (by rw[← qhv];exact e3),e4⟩
 rw[qhh] at hm
 obtain rfl:=List.mem_singleton.1 hm
 have hh:typeHandle prog 29 = .pointer (some ⟨7,29,none⟩):=by kernel_rfl
 rw[hh] at e5
 simpa using World.var?_cell qil e5 0))
theorem zsk:laidOutB prog=true:=by kernel_rfl
theorem qct:prog.cellsOf 3 = 1:=by kernel_rfl
theorem zic {w:World} {a:Addr} {v:Value} (h:w.cell? a=some v):a.spot=none:=by(
 unfold World.cell? at h
 cases hs:a.spot with
 | none=>rfl
 | some _ =>
  rw[hs] at h
  cases hb:w.heap[a.block]? with
  | none=>rw[hb] at h;simp at h
  | some o=>rw[hb] at h;cases o <;> simp at h)
theorem zme (a:Addr) (k:Nat) (h:(a.add k).spot=none):a.add k=⟨a.block,a.off+k,none⟩∧(0<k∨a.spot=none):=by(
 unfold Addr.add at *
 split at h
 ·(
 rename_i hk
 subst hk
 refine⟨?_,.inr h⟩
 rw[if_pos rfl]
 cases a
 simp only at h
 subst h
 rfl)
 ·rename_i hk
  exact⟨by rw[if_neg hk],.inl (by omega)⟩)
theorem zrt {H:Type} {enc:TypeId × Value→H} {W:World} {v:Value} {d:DataW H} {ps:List MemPlace} (hval:Value.okWide prog W .any 0 41 v) (h:DataW.Trod enc prog W 0 (fun _=>true) true 41 v d ps) :
   ∃ qs:List (Int × Int),zqg W v qs∧(∀ q ∈ qs,Fits q)∧∀ x ∈ ps,x.block<W.heap.size:=by(
 obtain⟨a,len,cap,rfl⟩:=okWide_slice underlying41 hval
 obtain⟨fuel,hf⟩:=h
 rcases Deep.open_slice_pairs underlying41 underlying23 qho rfl rfl qct qct hf with ⟨hc,hx⟩|⟨b,len',cap',m,k,V0,V1,D0,D1,P0,P1,hc,-,hl,hm,hmm,hx,hall⟩
 ·(
 have hc':[Value.slice a len cap]=[.slice none 0 0]:=hc
 simp only[List.cons.injEq,Value.slice.injEq,and_true] at hc'
 obtain⟨rfl,rfl,rfl⟩:=hc'
 have:ps=[]:=(Prod.mk.inj hx).2
 subst this
 exact⟨[],⟨none,0,rfl,Nat.le_refl _,fun i q hq=>by simp at hq⟩,fun q hq=>by simp at hq,fun x hx=>by simp at hx⟩)
 ·(
 have hc':[Value.slice a len cap]=[.slice (some b) len' cap']:=hc
 simp only[List.cons.injEq,Value.slice.injEq,and_true] at hc'
 obtain⟨rfl,rfl,rfl⟩:=hc'
 have hlm:len≤m:=by rw[hmm];simpa using hl
 have each:∀ i,i<m→∃ q:Int × Int,Fits q∧W.cell? ⟨b.block,b.off+i*2,none⟩=some (.int .i64 q.1)∧W.cell? ⟨b.block,b.off+i*2+1,none⟩=some (.int .i64 q.2)∧P0 i=[]∧P1 i=[]:=fun i hi=>by
  obtain⟨c0,c1,t0,t1⟩:=hall i hi
  obtain⟨x,e1,e2,w1⟩:=DataW.trod_int underlying3 t0
  obtain⟨y,f1,f2,w2⟩:=DataW.trod_int underlying3 t1
  simp only[List.cons.injEq,and_true] at e1 f1
  rw[(zme b _ (zic c0)).1,e1] at c0
  rw[(zme b _ (zic c1)).1,f1] at c1
  have Bx:=bounds_i64 w1
  have By:=bounds_i64 w2
  exact⟨(x,y),⟨by omega,by omega,by omega,by omega⟩,c0,c1,(Prod.mk.inj e2).2,(Prod.mk.inj f2).2⟩
 have hspot:0<m→b.spot=none:=fun h0=>by
  obtain⟨c0,-⟩:=hall 0 h0
  have:=(zme b _ (zic c0)).2
  simpa using this
 obtain⟨q,hq⟩:=Classical.axiomOfChoice (fun i:Nat=>(by
  by_cases hi:i<m
  ·obtain⟨q,h⟩:=each i hi
   exact⟨q,fun _=>h⟩
  ·exact⟨(0,0),fun h=>absurd h hi⟩:∃ q:Int × Int,i<m→Fits q∧W.cell? ⟨b.block,b.off+i*2,none⟩=some (.int .i64 q.1)∧W.cell? ⟨b.block,b.off+i*2+1,none⟩=some (.int .i64 q.2)∧P0 i=[]∧P1 i=[]))
 refine⟨(List.range len).map q,⟨some b,cap,by simp,by simpa using hl,fun i z hz=>?_⟩,fun z hz=>?_,fun x hx'=>?_⟩
 ·(
 rw[List.getElem?_map] at hz
 by_cases hi:i<len
 ·(
 rw[List.getElem?_range hi,Option.map_some] at hz
 obtain rfl:=Option.some.inj hz
 have hs:=hspot (by omega)
 refine⟨b.block,b.off,?_,(hq i (by omega)).2.1,(hq i (by omega)).2.2.1⟩
 cases b
 simp only at hs
 subst hs
 rfl)
 ·rw[List.getElem?_eq_none (by simpa using hi)] at hz
  simp at hz)
 ·obtain⟨i,hi,rfl⟩:=List.mem_map.1 hz
  exact (hq i (by have:=List.mem_range.1 hi;omega)).1
 ·(
 have hps:ps=MemPlace.row b (m*2)++(List.range m).flatMap fun i=>P0 i++P1 i:=(Prod.mk.inj hx).2
 rw[hps] at hx'
 have hfl:((List.range m).flatMap fun i=>P0 i++P1 i)=[]:=by
  rw[List.flatMap_eq_nil_iff]
  intro i hi
  have h:=hq i (List.mem_range.1 hi)
  rw[h.2.2.2.1,h.2.2.2.2]
  rfl
 rw[hfl,List.append_nil] at hx'
 rcases Nat.eq_zero_or_pos m with h0 | h0
 ·subst h0
  simp[MemPlace.row] at hx'
 ·(
 have hb:b.block<W.heap.size:=by
  have h:=ai (hq 0 h0).2.1
  exact h
 have:x.block=b.block:=by
  unfold MemPlace.row at hx'
  obtain⟨i,-,rfl⟩:=List.mem_map.1 hx'
  rfl
 omega))))
theorem qex (h:Rows.OrderSaysSaid):Rows.OrderSaysCardSaid :=
 Claim7.holds_tied_plain_at .later [] [.data,.data,.data,.handle] true (true,"2221625d58b73759a792136dd4801e66192dd0f08233eec995e92b97aa677481") true
  h (fun _ h=>by cases h) (by kernel_rfl) (fun _ h=>by cases h) orderSays_row_tie rfl ⟨rfl,rfl⟩ (by kernel_rfl) rfl
  (fun f fn hf hfn=>by
   obtain rfl:f = 6:=Option.some.inj ((show prog.funcNamed "tontine/tontinelaw.OrderSays" = some 6 by kernel_rfl).symm.trans hf) |>.symm
   obtain rfl:fn=Tryz.f6:=(Option.some.inj (func6.symm.trans hfn)).symm
   exact⟨by kernel_rfl,fun j t ht=>by
    rw[params6] at ht
    rcases j with _ | _ | j
    ·obtain rfl : 41 = t:=by simpa using ht
     exact (show prog.wantsStandIn 41 = false by kernel_rfl)
    ·obtain rfl : 41 = t:=by simpa using ht
     exact (show prog.wantsStandIn 41 = false by kernel_rfl)
    ·simp at ht⟩)
  (by kernel_rfl)
end Go.Proofs.YtagmkkiagjmimaaGreatDoor
