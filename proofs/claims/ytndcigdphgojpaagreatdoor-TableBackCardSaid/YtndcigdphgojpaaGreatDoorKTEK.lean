/- What the rows of the laws of package claims ask: what the listed variables hold, that a variable of the library's holds some number, and rows of pairs that come in. -/
import Derived.Test.YtndcigdphgojpaaGreatDoorRows
import Derived.Test.YtndcigdphgojpaaGreatDoorTie
import Derived.Test.YtndcigdphgojpaaGreatDoorCards
import Derived.Lib.SmallJoins
import Derived.ProofKit
import Derived.OpenShut
import Derived.LaidMore
import Derived.LaidHandle
import Derived.Stop.Joined
import Derived.SevenTiedAt
import Derived.Deep.SlicePairs
import Derived.Carry
import Derived.Shelf.Vars
import Derived.Test.YtndcigdphgojpaaGreatDoorKTT3r
namespace Go.Proofs.YtndcigdphgojpaaGreatDoor
open Go.ChangeShapes Go.WideShapes Go.ChangeAt Go.RowKit Go.Joins
set_option linter.unusedVariables false

theorem own : ownKnob Tryz.prog.godebug = none:=by kernel_rfl
theorem gPow : Tryz.prog.globalNamed "internal/strconv.uint64pow10" = some 5:=by kernel_rfl
theorem tPow : (Tryz.prog.globals[5]?).map (·.type) = some 199:=by kernel_rfl
theorem gErr : Tryz.prog.globalNamed "errors.errorType" = some 0:=by kernel_rfl
theorem rtErr : (Tryz.prog.cutTypes.find? (·.1 == "internal/reflectlite.rtype")).map (·.2) = some 156:=by kernel_rfl
theorem oneRow : ((List.range 241).filter fun t => Tryz.prog.rowNamed t [101,114,114,111,114]) = [28]:=by kernel_rfl
theorem tsize : Tryz.prog.types.size = 241:=by kernel_rfl
theorem cells20 : Tryz.prog.cellsOf 199 = 20:=by kernel_rfl
theorem cellsQ : Tryz.prog.cellsOf 82 = 2:=by kernel_rfl
theorem cells1 : Tryz.prog.cellsOf 33 = 1:=by kernel_rfl
theorem powData : (Rows.laid_internal_strconv_uint64pow10 : DataW Unit) = Lib.tabData .u64 Lib.pow10Tab:=by kernel_rfl

theorem laid_out : laidOutB Tryz.prog = true:=by kernel_rfl
theorem cellsI : Tryz.prog.cellsOf 3 = 1:=by kernel_rfl
theorem spot_none {w : World} {a : Addr} {v : Value} (h : w.cell? a = some v) : a.spot = none:=by
 unfold World.cell? at h
 cases hs : a.spot with
 | none => rfl
 | some _ =>
  rw [hs] at h
  cases hb : w.heap[a.block]? with
  | none => rw [hb] at h; simp at h
  | some o => rw [hb] at h; cases o <;> simp at h
theorem add_none (a : Addr) (k : Nat) (h : (a.add k).spot = none) : a.add k = ⟨a.block,a.off + k,none⟩∧(0 < k ∨ a.spot = none):=by
 unfold Addr.add at *
 split at h
 ·rename_i hk
  subst hk
  refine ⟨?_,.inr h⟩
  rw [if_pos rfl]
  cases a
  simp only at h
  subst h
  rfl
 ·rename_i hk
  exact ⟨by rw [if_neg hk],.inl (by omega)⟩
set_option maxRecDepth 100000 in
/-- a slice of pairs that came in -/
theorem pairs_in {H : Type} {enc : TypeId × Value→H} {W : World} {v : Value} {d : DataW H} {ps : List MemPlace} (hval : Value.okWide Tryz.prog W .any 0 22 v) (h : DataW.Trod enc Tryz.prog W 0 (fun _ => true) true 22 v d ps) :
  ∃ qs : List (Int × Int),QsAt W v qs∧(∀ q ∈ qs,Fits q)∧∀ x ∈ ps,x.block < W.heap.size:=by
 obtain ⟨a,len,cap,rfl⟩:=okWide_slice Tryz.underlying22 hval
 obtain ⟨fuel,hf⟩:=h
 rcases Deep.open_slice_pairs Tryz.underlying22 Tryz.underlying82 cellsQ rfl rfl cellsI cellsI hf with ⟨hc,hx⟩ | ⟨b,len',cap',m,k,V0,V1,D0,D1,P0,P1,hc,-,hl,hm,hmm,hx,hall⟩
 ·have hc' : [Value.slice a len cap] = [.slice none 0 0]:=hc
  simp only [List.cons.injEq,Value.slice.injEq,and_true] at hc'
  obtain ⟨rfl,rfl,rfl⟩:=hc'
  have : ps = []:=(Prod.mk.inj hx).2
  subst this
  exact ⟨[],⟨none,0,rfl,Nat.le_refl _,fun i q hq => by simp at hq⟩,fun q hq => by simp at hq,fun x hx => by simp at hx⟩
 ·have hc' : [Value.slice a len cap] = [.slice (some b) len' cap']:=hc
  simp only [List.cons.injEq,Value.slice.injEq,and_true] at hc'
  obtain ⟨rfl,rfl,rfl⟩:=hc'
  have hlm : len ≤ m:=by rw [hmm]; simpa using hl
  have each : ∀ i,i < m→∃ q : Int × Int,Fits q∧W.cell? ⟨b.block,b.off + i * 2,none⟩ = some (.int .i64 q.1)∧W.cell? ⟨b.block,b.off + i * 2 + 1,none⟩ = some (.int .i64 q.2)∧P0 i = []∧P1 i = []:=fun i hi => by
   obtain ⟨c0,c1,t0,t1⟩:=hall i hi
   obtain ⟨x,e1,e2,w1⟩:=DataW.trod_int Tryz.underlying3 t0
   obtain ⟨y,f1,f2,w2⟩:=DataW.trod_int Tryz.underlying3 t1
   simp only [List.cons.injEq,and_true] at e1 f1
   rw [(add_none b _ (spot_none c0)).1,e1] at c0
   rw [(add_none b _ (spot_none c1)).1,f1] at c1
   have Bx:=bounds_i64 w1
   have By:=bounds_i64 w2
   exact ⟨(x,y),⟨by omega,by omega,by omega,by omega⟩,c0,c1,(Prod.mk.inj e2).2,(Prod.mk.inj f2).2⟩
  have hspot : 0 < m→b.spot = none:=fun h0 => by
   obtain ⟨c0,-⟩:=hall 0 h0
   have:=(add_none b _ (spot_none c0)).2
   simpa using this
  obtain ⟨q,hq⟩:=Classical.axiomOfChoice (fun i : Nat => (by
   by_cases hi : i < m
   ·obtain ⟨q,h⟩:=each i hi
    exact ⟨q,fun _ => h⟩
   ·exact ⟨(0,0),fun h => absurd h hi⟩ : ∃ q : Int × Int,i < m→Fits q∧W.cell? ⟨b.block,b.off + i * 2,none⟩ = some (.int .i64 q.1)∧W.cell? ⟨b.block,b.off + i * 2 + 1,none⟩ = some (.int .i64 q.2)∧P0 i = []∧P1 i = []))
  refine ⟨(List.range len).map q,⟨some b,cap,by simp,by simpa using hl,fun i z hz => ?_⟩,fun z hz => ?_,fun x hx' => ?_⟩
  ·rw [List.getElem?_map] at hz
   by_cases hi : i < len
   ·rw [List.getElem?_range hi,Option.map_some] at hz
    obtain rfl:=Option.some.inj hz
    have hs:=hspot (by omega)
    refine ⟨b.block,b.off,?_,(hq i (by omega)).2.1,(hq i (by omega)).2.2.1⟩
    cases b
    simp only at hs
    subst hs
    rfl
   ·rw [List.getElem?_eq_none (by simpa using hi)] at hz
    simp at hz
  ·obtain ⟨i,hi,rfl⟩:=List.mem_map.1 hz
   exact (hq i (by have:=List.mem_range.1 hi; omega)).1
  ·have hps : ps = MemPlace.row b (m * 2) ++ (List.range m).flatMap fun i => P0 i ++ P1 i:=(Prod.mk.inj hx).2
   rw [hps] at hx'
   have hfl : ((List.range m).flatMap fun i => P0 i ++ P1 i) = []:=by
    rw [List.flatMap_eq_nil_iff]
    intro i hi
    have h:=hq i (List.mem_range.1 hi)
    rw [h.2.2.2.1,h.2.2.2.2]
    rfl
   rw [hfl,List.append_nil] at hx'
   rcases Nat.eq_zero_or_pos m with h0 | h0
   ·subst h0
    simp [MemPlace.row] at hx'
   ·have hb : b.block < W.heap.size:=by
     have h:=lt_of_cell (hq 0 h0).2.1
     exact h
    have : x.block = b.block:=by
     unfold MemPlace.row at hx'
     obtain ⟨i,-,rfl⟩:=List.mem_map.1 hx'
     rfl
    omega

/-- a row whose contract is told the world's shape, too -/
theorem returns_shape {H : Type} {enc : TypeId × Value→H} {C : Checked} (own : ownKnob C.prog.godebug = none) {os : Os} {f : FuncId} {fn : Func} {s : ChangeSpec} {X : World→Array Value→Prop} (hX : ∀ (w w' : World) (args : Array Value),w.heap = w'.heap→X w args→X w' args) (started : os.Started) (noInit : C.prog.inits.idxOf? f = none) (hfn : C.prog.funcs[f]? = some fn)
  (wit : ∃ (w : World) (tape : Tape) (i : Input),w.os = os∧(w.forCall tape i).Shaped C.prog∧i.vars = []∧Input.okWide C.prog (w.forCall tape i) .any w.heap.size f i∧((s.pre enc C.prog fn [] false (w.forCall tape i).memory i.args∧X (w.forCall tape i).memory i.args)∧sizedMet enc C.prog fn (OpenSpec.ofChange s) false (w.forCall tape i).memory i.args)∧Assume.holds {} C.prog (lone (Frame.enter C.prog f i.args .normal) [] (w.forCall tape i)))
  (body : ∀ (W : World) (base : Nat) (args : Array Value) (ds gs : List (DataW H)) (before : List MemPlace),(∀ (j : Nat) t v,fn.params[j]? = some t→args[j]? = some v→Value.okWide C.prog W .any base t v)→DataW.Whole enc C.prog fn.params.toList s.vars false W args.toList ds gs before→X W args→W.ShapedOpen C.prog →
   Calls C.prog f args W fun e W' => ∃ v,e = .returned v∧s.post enc C.prog fn false true false false W args v W') :
  ReturnsInHanded {} C os f .any (fun w args => (s.pre enc C.prog fn [] false w args∧X w args)∧sizedMet enc C.prog fn (OpenSpec.ofChange s) false w args) (s.post enc C.prog fn false true false false) :=
 returnsInHanded_of_calls own started noInit wit fun w tape i _ hsh _ hok hpre _ => by
  obtain ⟨-,-,-,fn',hfn',-,-,-,-,hval⟩:=hok
  obtain rfl : fn' = fn:=Option.some.inj (hfn'.symm.trans hfn)
  obtain ⟨⟨⟨ds,gs,before,hw,-⟩,hx⟩,-⟩:=hpre
  exact (body _ w.heap.size i.args ds gs before hval (DataW.Whole.of_heap (w':=w.forCall tape i) (by rfl) hw) (hX _ _ _ (by rfl) hx) hsh).mono fun e W' ⟨v,he,hp⟩ => by
   subst he
   exact ChangeSpec.post_blind hp
end Go.Proofs.YtndcigdphgojpaaGreatDoor
