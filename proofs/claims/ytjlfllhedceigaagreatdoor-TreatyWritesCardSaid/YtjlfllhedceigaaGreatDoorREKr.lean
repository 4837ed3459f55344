/- What the cards of a seat of package tria -/
import Derived.Test.YtjlfllhedceigaaGreatDoorRows
import Derived.Test.YtjlfllhedceigaaGreatDoorTie
import Derived.Test.YtjlfllhedceigaaGreatDoorCards
import Derived.Lib.SmallJoins
import Derived.ProofKit
import Derived.OpenShut
import Derived.LaidMore
import Derived.LaidHandle
import Derived.Stop.Joined
import Derived.SevenTiedAt
import Derived.Deep.SlicePairs
import Derived.Carry
import Derived.Lay
import Derived.Shelf.Vars
import Derived.Test.YtjlfllhedceigaaGreatDoorRR0
namespace Go.Proofs.YtjlfllhedceigaaGreatDoor
open Go.Proofs.Tryz
open Go.ChangeShapes Go.WideShapes Go.ChangeAt Go.RowKit Go.Joins
set_option maxRecDepth 100000
set_option linter.unusedVariables false
theorem own:ownKnob prog.godebug=none:=by kernel_rfl
theorem qkx:prog.globalNamed "internal/strconv.uint64pow10" = some 2:=by kernel_rfl
theorem qkr:(prog.globals[2]?).map (·.type)=some 349:=by kernel_rfl
theorem qgh:prog.cellsOf 349 = 20:=by kernel_rfl
theorem qjt:prog.cellsOf 23 = 2:=by kernel_rfl
theorem qjv:prog.cellsOf 24 = 1:=by kernel_rfl
theorem qfm:(Rows.laid_internal_strconv_uint64pow10:DataW Unit)=Lib.tabData .u64 Lib.pow10Tab:=by kernel_rfl
theorem qdb:laidOutB prog=true:=by kernel_rfl
theorem ztn:prog.cellsOf 3 = 1:=by kernel_rfl
theorem zmn {w:World} {a:Addr} {v:Value} (h:w.cell? a=some v):a.spot=none:=by(
 unfold World.cell? at h
 cases hs:a.spot with
 | none=>rfl
 | some _ =>
  rw[hs] at h
  cases hb:w.heap[a.block]? with
  | none=>rw[hb] at h;simp at h
  | some o=>rw[hb] at h;cases o <;> simp at h)
theorem zlj (a:Addr) (k:Nat) (h:(a.add k).spot=none):a.add k=⟨a.block,a.off+k,none⟩∧(0<k∨a.spot=none):=by(
 unfold Addr.add at *
 split at h
 ·(
 rename_i hk
 subst hk
 refine⟨?_,.inr h⟩
 rw[if_pos rfl]
 cases a
 simp only at h
 subst h
 rfl)
 ·rename_i hk
  exact⟨by rw[if_neg hk],.inl (by omega)⟩)
theorem qcu {w:World} (h:w.ShapedOpen prog):∃ m,w.cell? ⟨3,0,none⟩=some (.int .i64 m):=by(
 have hs:prog.globals.size=12:=by kernel_rfl
 have hg : 3 < prog.globals.size:=by rw[hs];decide
 have h0:((begin prog (fun _ _=>0) default).world.heap[3]?).bind Obj.row? = some (#[.int .i64 0],3):=by kernel_rfl
 have hb:prog.buildable 3 = true:=by kernel_rfl
 have hc:prog.cellTypes prog.depth 3 = some [3]:=by kernel_rfl
 have hu:prog.underlying 3 = some (.int .i64):=by kernel_rfl
 exact cell_of_shapedOpen_int h hg h0 rfl hb hc hu)
theorem zls {H:Type} {enc:TypeId × Value→H} {C:Checked} (own:ownKnob C.prog.godebug=none) {os:Os} {f:FuncId} {fn:Func} {s:ChangeSpec} {X:World→Array Value→Prop} (hX:∀ (w w':World) (args:Array Value),w.heap=w'.heap→X w args→X w' args) (started:os.Started) (noInit:C.prog.inits.idxOf? f=none) (hfn:C.prog.funcs[f]? = some fn)
  (wit:∃ (w:World) (tape:Tape) (i:Input),w.os=os∧(w.forCall tape i).Shaped C.prog∧i.vars=[]∧Input.okWide C.prog (w.forCall tape i) .any w.heap.size f i∧((s.pre enc C.prog fn [] false (w.forCall tape i).memory i.args∧X (w.forCall tape i).memory i.args)∧sizedMet enc C.prog fn (OpenSpec.ofChange s) false (w.forCall tape i).memory i.args)∧Assume.holds {} C.prog (lone (Frame.enter C.prog f i.args .normal) [] (w.forCall tape i)))
  (body:∀ (W:World) (base:Nat) (args:Array Value) (ds gs:List (DataW H)) (before:List MemPlace),(∀ (j:Nat) t v,fn.params[j]? = some t→args[j]? = some v→Value.okWide C.prog W .any base t v)→DataW.Whole enc C.prog fn.params.toList s.vars false W args.toList ds gs before→X W args→W.ShapedOpen C.prog →
   Calls C.prog f args W fun e W'=>∃ v,e=.returned v∧s.post enc C.prog fn false true false false W args v W') :
  ReturnsInHanded {} C os f .any (fun w args=>(s.pre enc C.prog fn [] false w args∧X w args)∧sizedMet enc C.prog fn (OpenSpec.ofChange s) false w args) (s.post enc C.prog fn false true false false) :=
 returnsInHanded_of_calls own started noInit wit fun w tape i _ hsh _ hok hpre _=>by
  obtain⟨-,-,-,fn',hfn',-,-,-,-,hval⟩:=hok
  obtain rfl:fn'=fn:=Option.some.inj (hfn'.symm.trans hfn)
  obtain⟨⟨⟨ds,gs,before,hw,-⟩,hx⟩,-⟩:=hpre
  exact (body _ w.heap.size i.args ds gs before hval (DataW.Whole.of_heap (w':=w.forCall tape i) (by rfl) hw) (hX _ _ _ (by rfl) hx) hsh).mono fun e W' ⟨v,he,hp⟩=>by
   subst he
   exact ChangeSpec.post_blind hp
end Go.Proofs.YtjlfllhedceigaaGreatDoor
