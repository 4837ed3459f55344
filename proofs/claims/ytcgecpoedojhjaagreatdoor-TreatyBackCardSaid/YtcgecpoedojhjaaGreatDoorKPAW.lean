/- What the cards of a seat of package tria -/
import Derived.Test.YtcgecpoedojhjaaGreatDoorRows
import Derived.Test.YtcgecpoedojhjaaGreatDoorTie
import Derived.Test.YtcgecpoedojhjaaGreatDoorCards
import Derived.Lib.SmallJoins
import Derived.ProofKit
import Derived.OpenShut
import Derived.LaidMore
import Derived.LaidHandle
import Derived.Stop.Joined
import Derived.SevenTiedAt
import Derived.Deep.SlicePairs
import Derived.Carry
import Derived.Lay
import Derived.Shelf.Vars
import Derived.Test.YtcgecpoedojhjaaGreatDoorProg
import Derived.Deep.QuietTactic
import Derived.BigQuiet
import Derived.Outline
import Derived.Shelf.Spec.BitsCarry
import Derived.Test.YtcgecpoedojhjaaGreatDoorKPXO
namespace Go.Proofs.YtcgecpoedojhjaaGreatDoor
open Go.Proofs.Tryz
open Go.ChangeShapes Go.WideShapes Go.ChangeAt Go.RowKit Go.Joins
set_option maxHeartbeats 16000000
set_option maxRecDepth 100000
set_option linter.unusedVariables false
theorem own:ownKnob prog.godebug=none:=by kernel_rfl
theorem qul:prog.globalNamed "internal/strconv.uint64pow10" = some 5:=by kernel_rfl
theorem que:(prog.globals[5]?).map (·.type)=some 237:=by kernel_rfl
theorem qjc:prog.cellsOf 237 = 20:=by kernel_rfl
theorem qth:prog.cellsOf 41 = 2:=by kernel_rfl
theorem qtj:prog.cellsOf 32 = 1:=by kernel_rfl
theorem qik:(Rows.laid_internal_strconv_uint64pow10:DataW Unit)=Lib.tabData .u64 Lib.pow10Tab:=by kernel_rfl
theorem qfm:laidOutB prog=true:=by kernel_rfl
theorem zwl:prog.cellsOf 3 = 1:=by kernel_rfl
theorem zor {w:World} {a:Addr} {v:Value} (h:w.cell? a=some v):a.spot=none:=by
 unfold World.cell? at h
 cases hs:a.spot with
 | none=>rfl
 | some _ =>
  rw[hs] at h
  cases hb:w.heap[a.block]? with
  | none=>rw[hb] at h;simp at h
  | some o=>rw[hb] at h;cases o <;> simp at h
theorem znd (a:Addr) (k:Nat) (h:(a.add k).spot=none):a.add k=⟨a.block,a.off+k,none⟩∧(0<k∨a.spot=none):=by
 unfold Addr.add at *
 split at h
 ·rename_i hk
  subst hk
  refine⟨?_,.inr h⟩
  rw[if_pos rfl]
  cases a
  simp only at h
  subst h
  rfl
 ·rename_i hk
  exact⟨by rw[if_neg hk],.inl (by omega)⟩
theorem qfe {w:World} (h:w.ShapedOpen prog):∃ m,w.cell? ⟨2,0,none⟩=some (.int .i64 m):=by
 have hs:prog.globals.size=12:=by kernel_rfl
 have hg : 2 < prog.globals.size:=by rw[hs];decide
 have h0:((begin prog (fun _ _=>0) default).world.heap[2]?).bind Obj.row? = some (#[.int .i64 0],3):=by kernel_rfl
 have hb:prog.buildable 3 = true:=by kernel_rfl
 have hc:prog.cellTypes prog.depth 3 = some [3]:=by kernel_rfl
 have hu:prog.underlying 3 = some (.int .i64):=by kernel_rfl
 exact cell_of_shapedOpen_int h hg h0 rfl hb hc hu
theorem znq {H:Type} {enc:TypeId × Value→H} {C:Checked} (own:ownKnob C.prog.godebug=none) {os:Os} {f:FuncId} {fn:Func} {s:ChangeSpec} {X:World→Array Value→Prop} (hX:∀ (w w':World) (args:Array Value),w.heap=w'.heap→X w args→X w' args) (started:os.Started) (noInit:C.prog.inits.idxOf? f=none) (hfn:C.prog.funcs[f]? = some fn)
  (wit:∃ (w:World) (tape:Tape) (i:Input),w.os=os∧(w.forCall tape i).Shaped C.prog∧i.vars=[]∧Input.okWide C.prog (w.forCall tape i) .any w.heap.size f i∧((s.pre enc C.prog fn [] false (w.forCall tape i).memory i.args∧X (w.forCall tape i).memory i.args)∧sizedMet enc C.prog fn (OpenSpec.ofChange s) false (w.forCall tape i).memory i.args)∧Assume.holds {} C.prog (lone (Frame.enter C.prog f i.args .normal) [] (w.forCall tape i)))
  (body:∀ (W:World) (base:Nat) (args:Array Value) (ds gs:List (DataW H)) (before:List MemPlace),(∀ (j:Nat) t v,fn.params[j]? = some t→args[j]? = some v→Value.okWide C.prog W .any base t v)→DataW.Whole enc C.prog fn.params.toList s.vars false W args.toList ds gs before→X W args→W.ShapedOpen C.prog →
   Calls C.prog f args W fun e W'=>∃ v,e=.returned v∧s.post enc C.prog fn false true false false W args v W') :
  ReturnsInHanded {} C os f .any (fun w args=>(s.pre enc C.prog fn [] false w args∧X w args)∧sizedMet enc C.prog fn (OpenSpec.ofChange s) false w args) (s.post enc C.prog fn false true false false) :=
 returnsInHanded_of_calls own started noInit wit fun w tape i _ hsh _ hok hpre _=>by
  obtain⟨-,-,-,fn',hfn',-,-,-,-,hval⟩:=hok
  obtain rfl:fn'=fn:=Option.some.inj (hfn'.symm.trans hfn)
  obtain⟨⟨⟨ds,gs,before,hw,-⟩,hx⟩,-⟩:=hpre
  exact (body _ w.heap.size i.args ds gs before hval (DataW.Whole.of_heap (w':=w.forCall tape i) (by rfl) hw) (hX _ _ _ (by rfl) hx) hsh).mono fun e W' ⟨v,he,hp⟩=>by
   subst he
   exact ChangeSpec.post_blind hp
open Go.RowKit
def lcs (l:Ln) (s:Bool) (x y:Int):List Value:=[.int .i64 l.kd,.bool s,.int .u64 x,.int .u64 y,.pointer none,.int .i64 l.fr,.int .i64 l.li,.int .i64 l.ti,.int .i64 l.pr,.string l.to]
def y7 (B:Nat) (w:World) (v:Value) (ls:List Ln):Prop:=∃ us,w.ownsRow B 37 10 v ls.length us∧us.length=ls.length*10∧∀ i l,ls[i]? = some l→∃ s x y,(∀ r u,(lcs l s x y)[r]? = some u→us[i*10+r]? = some u)∧∀ W,zi W (.agg #[.bool s,.int .u64 x,.int .u64 y,.pointer none]) l.f
theorem y7.form {B:Nat} {w:World} {v:Value} {ls:List Ln} (h:y7 B w v ls):∃ a c,v=.slice a ls.length c:=by
 obtain⟨us,ho,-⟩:=h
 exact ownsRow_form ho
theorem y7.nil (B:Nat) (w:World):y7 B w (.slice none 0 0) []:=⟨[],⟨rfl,.inl ⟨rfl,rfl⟩⟩,rfl,fun i l h=>by simp at h⟩
theorem y7.but {B:Nat} {w w':World} {v:Value} {ls:List Ln} (h:y7 B w v ls) (hb:But [] w w'):y7 B w' v ls:=by
 obtain⟨us,ho,h1,h2⟩:=h
 exact⟨us,zhz ho hb,h1,h2⟩
theorem y7.lines {B:Nat} {w:World} {v:Value} {ls:List Ln} (h:y7 B w v ls):bn w v ls:=by
 obtain⟨us,ho,hl,h2⟩:=h
 rcases ho.2 with ⟨rfl,h0⟩|⟨g,cap,cur,rfl,-,-,hc,-⟩
 ·refine⟨none,0,by rw[h0],by omega,fun i l hi=>?_⟩
  have:=(List.getElem?_eq_some_iff.1 hi).1
  omega
 ·refine⟨_,cap,rfl,by omega,fun i l hi=>⟨g,0,rfl,?_⟩⟩
  have hi':=(List.getElem?_eq_some_iff.1 hi).1
  obtain⟨s,x,y,hc,hf⟩:=h2 i l hi
  have hcell:∀ r u,r<10→(lcs l s x y)[r]? = some u→w.cell? ⟨g,0+i*10+r,none⟩=some u:=fun r u hr hu=>by
   rw[Nat.zero_add,ho.cellAt (i*10+r) (by omega)]
   exact hc r u hu
  exact⟨s,x,y,none,⟨hcell 0 _ (by omega) rfl,hcell 1 _ (by omega) rfl,hcell 2 _ (by omega) rfl,hcell 3 _ (by omega) rfl,hcell 4 _ (by omega) rfl,hcell 5 _ (by omega) rfl,hcell 6 _ (by omega) rfl,hcell 7 _ (by omega) rfl,hcell 8 _ (by omega) rfl,hcell 9 _ (by omega) rfl⟩,hf w⟩
theorem zpb:∃ i,prog.info? 37 = some i∧i.zero=some (.agg #[.int .i64 0,.bool false,.int .u64 0,.int .u64 0,.pointer none,.int .i64 0,.int .i64 0,.int .i64 0,.int .i64 0,.string ⟨#[]⟩])∧i.size=10∧i.bytes=88:=by
 have h:(prog.info? 37).map (fun i=>(i.zero,i.size,i.bytes))=some (some (.agg #[.int .i64 0,.bool false,.int .u64 0,.int .u64 0,.pointer none,.int .i64 0,.int .i64 0,.int .i64 0,.int .i64 0,.string ⟨#[]⟩]),10,88):=by kernel_rfl
 cases e:prog.info? 37 with
 | none=>rw[e] at h;simp at h
 | some i =>
  rw[e] at h
  simp only[Option.map_some,Option.some.injEq,Prod.mk.injEq] at h
  exact⟨i,rfl,h.1,h.2.1,h.2.2⟩
theorem y7.app {B:Nat} {w:World} {v:Value} {ls:List Ln} (h:y7 B w v ls) (hB:B≤w.heap.size) (hk:ls.length<100000) (l:Ln) (s:Bool) (x y:Int) (hf:∀ W,zi W (.agg #[.bool s,.int .u64 x,.int .u64 y,.pointer none]) l.f) (g:Nat) (hc:∀ r u,(lcs l s x y)[r]? = some u→w.cell? ⟨g,r,none⟩=some u) :
  ∃ v' w',(Builtin.append_ #[23,23] 23 #[v,.slice (some ⟨g,0,none⟩) 1 1]).run prog w=.ok v' w'∧y7 B w' v' (ls++[l])∧∀ w0,But [] w0 w→w0.heap.size≤B→But [] w0 w':=by
 obtain⟨us,ho,hl,h2⟩:=h
 obtain⟨i0,hi,hz0,hz1,hz2⟩:=zpb
 obtain⟨v',w',hr,ho',hg,-⟩:=run_append_own (P:=prog) w B 23 23 37 i0 _ 10 88 underlying23 hi hz0 hz1 hz2 rfl (by decide) v ls.length us ho ⟨g,0,none⟩ 1 1 (lcs l s x y) rfl (fun j u hj=>by
   have:=hc j u hj
   have e:(Addr.add ⟨g,0,none⟩ j)=⟨g,j,none⟩:=by simp[Addr.add];omega
   rw[e]
   exact this) (fun u hu=>by
   simp only[lcs,List.mem_cons,List.not_mem_nil,or_false] at hu
   rcases hu with rfl|rfl|rfl|rfl|rfl|rfl|rfl|rfl|rfl|rfl <;> rfl) (by unfold maxLen;omega) (by omega) hB
 refine⟨v',w',hr,⟨us++lcs l s x y,by rw[List.length_append];exact ho',by rw[List.length_append,List.length_append,hl];simp[lcs];omega,fun i l' hi=>?_⟩,fun w0 h0 hb=>zrf h0 ho hb hg⟩
 rcases Nat.lt_or_ge i ls.length with hlt | hge
 ·rw[List.getElem?_append_left hlt] at hi
  obtain⟨s',x',y',k1,k2⟩:=h2 i l' hi
  refine⟨s',x',y',fun r u hu=>?_,k2⟩
  have hr10:r<10:=by have:=(List.getElem?_eq_some_iff.1 hu).1;simpa [lcs] using this
  rw[List.getElem?_append_left (by omega)]
  exact k1 r u hu
 ·have hi':=(List.getElem?_eq_some_iff.1 hi).1
  rw[List.length_append] at hi'
  obtain rfl:i=ls.length:=by simp at hi';omega
  rw[List.getElem?_append_right (by omega),Nat.sub_self] at hi
  obtain rfl:l=l':=by simpa using hi
  refine⟨s,x,y,fun r u hu=>?_,hf⟩
  rw[List.getElem?_append_right (by omega),show ls.length*10+r-us.length=r by omega]
  exact hu
structure PL where
 kd:Int
 qu:Int
 qv:Int
 fr:Int
 li:Int
 ti:Int
 pr:Int
 to:ByteArray
def qbc (w:World) (b o:Nat) (p:PL):Prop:=w.cell? ⟨b,o,none⟩=some (.int .i64 p.kd)∧w.cell? ⟨b,o+1,none⟩=some (.int .i64 p.qu)∧w.cell? ⟨b,o+2,none⟩=some (.int .i64 p.qv)∧w.cell? ⟨b,o+3,none⟩=some (.int .i64 p.fr)∧w.cell? ⟨b,o+4,none⟩=some (.int .i64 p.li)∧w.cell? ⟨b,o+5,none⟩=some (.int .i64 p.ti)∧w.cell? ⟨b,o+6,none⟩=some (.int .i64 p.pr)∧w.cell? ⟨b,o+7,none⟩=some (.string p.to)
theorem qbc.but {w w':World} {b o:Nat} {p:PL} {l:List Nat} (h:qbc w b o p) (hb:But l w w') (hn:b ∉ l):qbc w' b o p:=by
 obtain⟨c0,c1,c2,c3,c4,c5,c6,c7⟩:=h
 exact⟨hb.zb c0 hn,hb.zb c1 hn,hb.zb c2 hn,hb.zb c3 hn,hb.zb c4 hn,hb.zb c5 hn,hb.zb c6 hn,hb.zb c7 hn⟩
def znh (w:World) (v:Value) (ps:List PL):Prop:=∃ a cap,v=.slice a ps.length cap∧ps.length≤cap∧∀ i p,ps[i]? = some p→∃ b off,a=some ⟨b,off,none⟩∧qbc w b (off+i*8) p
theorem znh.but {w w':World} {v:Value} {ps:List PL} (h:znh w v ps) (hb:But [] w w'):znh w' v ps:=by
 obtain⟨a,cap,e,hc,h⟩:=h
 refine⟨a,cap,e,hc,fun i p hp=>?_⟩
 obtain⟨b,off,e1,h1⟩:=h i p hp
 exact⟨b,off,e1,h1.but hb (by simp)⟩
def zgz (p:PL):Ln:=⟨p.kd,qf (p.qu,p.qv),p.fr,p.li,p.ti,p.pr,p.to⟩
theorem qiy:prog.cellsOf 43 = 8:=by kernel_rfl
theorem zue:prog.cellsOf 9 = 1:=by kernel_rfl
theorem qio {H:Type} {enc:TypeId × Value→H} {W:World} {vs:List Value} {d:DataW H} {ps:List MemPlace} {n:Nat} (hl:vs.length=8) (hf:DataW.trod enc prog W 0 (fun _=>true) true n 43 vs=some (d,ps)) :
  ∃ p:PL,vs=[.int .i64 p.kd,.int .i64 p.qu,.int .i64 p.qv,.int .i64 p.fr,.int .i64 p.li,.int .i64 p.ti,.int .i64 p.pr,.string p.to]∧ps=[]∧Fits (p.qu,p.qv)∧p.to.size≤maxLen:=by
 obtain⟨xs,k,hk,hxy,_,hxl,hg⟩:=DataW.trod_struct underlying43 hf
 match xs,hxl,vs,hl with
 | [y0,y1,y2,y3,y4,y5,y6],_,[v0,v1,v2,v3,v4,v5,v6,v7],_ =>
  have g0:=hg 0 _ rfl
  have g1:=hg 1 _ rfl
  have g2:=hg 2 _ rfl
  have g3:=hg 3 _ rfl
  have g4:=hg 4 _ rfl
  have g5:=hg 5 _ rfl
  have g6:=hg 6 _ rfl
  simp[zwl,qth,zue] at g0 g1 g2 g3 g4 g5 g6
  obtain⟨z0,e0,f0,w0⟩:=DataW.trod_int underlying3 g0
  obtain⟨z2,e2,f2,w2⟩:=DataW.trod_int underlying3 g2
  obtain⟨z3,e3,f3,w3⟩:=DataW.trod_int underlying3 g3
  obtain⟨z4,e4,f4,w4⟩:=DataW.trod_int underlying3 g4
  obtain⟨z5,e5,f5,w5⟩:=DataW.trod_int underlying3 g5
  obtain⟨s6,e6,f6,w6⟩:=DataW.trod_string underlying9 g6
  obtain⟨us,k2,hk2,hxy2,_,hul,hu⟩:=DataW.trod_struct underlying41 g1
  match us,hul with
  | [a0,a1],_ =>
   have h0:=hu 0 _ rfl
   have h1:=hu 1 _ rfl
   simp[zwl] at h0 h1
   obtain⟨q0,c0,b0,x0⟩:=DataW.trod_int underlying3 h0
   obtain⟨q1,c1,b1,x1⟩:=DataW.trod_int underlying3 h1
   simp only[List.cons.injEq,and_true] at e0 e2 e3 e4 e5 e6 c0 c1
   have Bx:=bounds_i64 x0
   have By:=bounds_i64 x1
   have hfit:Fits (q0,q1):=⟨by omega,by omega,by omega,by omega⟩
   refine⟨⟨z0,q0,q1,z2,z3,z4,z5,s6⟩,by rw[e0,e2,e3,e4,e5,e6,c0,c1],?_,hfit,w6⟩
   have hp:=(Prod.mk.inj hxy).2
   have hq:=(congrArg Prod.snd hxy2)
   rw[hp]
   simp only[List.flatMap_cons,List.flatMap_nil,f0,f2,f3,f4,f5,f6,hq,b0,b1]
   rfl
theorem qjb {W:World} {a:Addr} {i:Nat} {vs:List Value} (h:W.cells? 0 (a.add (i*8)) 8=some vs):vs.length=8∧(0<i*8∨a.spot=none)∧∀ j,j<8→W.cell? ⟨a.block,a.off+i*8+j,none⟩=vs[j]?:=by
 obtain⟨-,hl,hc⟩:=World.cells?_some h
 have one:∀ j,j<8→∃ v,vs[j]? = some v∧W.cell? ((a.add (i*8)).add j)=some v:=fun j hj=>by
  refine⟨vs[j]'(by omega),List.getElem?_eq_getElem (by omega),?_⟩
  rw[hc j hj]
  exact List.getElem?_eq_getElem (by omega)
 obtain⟨v0,-,c0⟩:=one 0 (by omega)
 have hs:(a.add (i*8)).spot=none:=by
  have:=(znd _ _ (zor c0)).2
  simpa using this
 obtain⟨e,e2⟩:=znd a (i*8) hs
 refine⟨hl,e2,fun j hj=>?_⟩
 obtain⟨v,hv,cj⟩:=one j hj
 rw[(znd _ _ (zor cj)).1,e] at cj
 rw[hv]
 exact cj
theorem zyz {H:Type} {enc:TypeId × Value→H} {W:World} {v:Value} {d:DataW H} {ps:List MemPlace} (hval:Value.okWide prog W .any 0 22 v) (h:DataW.Trod enc prog W 0 (fun _=>true) true 22 v d ps) :
  ∃ ls:List PL,znh W v ls∧(∀ p ∈ ls,Fits (p.qu,p.qv))∧(∀ p ∈ ls,p.to.size<9223372036854775808)∧∀ x ∈ ps,x.block<W.heap.size:=by
 obtain⟨a,len,cap,rfl⟩:=okWide_slice underlying22 hval
 obtain⟨fuel,hf⟩:=h
 rcases Deep.open_slice underlying22 hf with ⟨hc,hx⟩|⟨b,len',cap',m,k,D,Pl,hc,-,hl,-,hmm,hx,hall⟩
 ·have hc':[Value.slice a len cap]=[.slice none 0 0]:=hc
  simp only[List.cons.injEq,Value.slice.injEq,and_true] at hc'
  obtain⟨rfl,rfl,rfl⟩:=hc'
  obtain⟨rfl,rfl⟩:=Prod.mk.inj hx
  exact⟨[],⟨none,0,rfl,Nat.le_refl _,fun i q hq=>by simp at hq⟩,fun q hq=>by simp at hq,fun q hq=>by simp at hq,fun x hx=>by simp at hx⟩
 ·have hc':[Value.slice a len cap]=[.slice (some b) len' cap']:=hc
  simp only[List.cons.injEq,Value.slice.injEq,and_true] at hc'
  obtain⟨rfl,rfl,rfl⟩:=hc'
  have hlm:len≤m:=by rw[hmm];simpa using hl
  rw[qiy] at hx hall
  have each:∀ i,i<m→∃ p:PL,(0<i*8∨b.spot=none)∧qbc W b.block (b.off+i*8) p∧Fits (p.qu,p.qv)∧p.to.size<9223372036854775808∧Pl i=[]:=fun i hi=>by
   obtain⟨vs,c0,t0⟩:=hall i hi
   obtain⟨h1,h2,h3⟩:=qjb c0
   obtain⟨p,rfl,h5,h6,h7⟩:=qio h1 t0
   refine⟨p,h2,⟨?_,?_,?_,?_,?_,?_,?_,?_⟩,h6,by unfold maxLen at h7;omega,h5⟩
   ·exact h3 0 (by omega)
   ·exact h3 1 (by omega)
   ·exact h3 2 (by omega)
   ·exact h3 3 (by omega)
   ·exact h3 4 (by omega)
   ·exact h3 5 (by omega)
   ·exact h3 6 (by omega)
   ·exact h3 7 (by omega)
  obtain⟨q,hq⟩:=Classical.axiomOfChoice (fun i:Nat=>(by
   by_cases hi:i<m
   ·obtain⟨q,h⟩:=each i hi
    exact⟨q,fun _=>h⟩
   ·exact⟨⟨0,0,0,0,0,0,0,⟨#[]⟩⟩,fun h=>absurd h hi⟩:∃ p:PL,i<m→(0<i*8∨b.spot=none)∧qbc W b.block (b.off+i*8) p∧Fits (p.qu,p.qv)∧p.to.size<9223372036854775808∧Pl i=[]))
  obtain⟨hd,hps⟩:=Prod.mk.inj hx
  refine⟨(List.range len).map q,⟨some b,cap,by simp,by simpa using hl,fun i z hz=>?_⟩,fun z hz=>?_,fun z hz=>?_,fun x hx'=>?_⟩
  ·rw[List.getElem?_map] at hz
   by_cases hi:i<len
   ·rw[List.getElem?_range hi,Option.map_some] at hz
    obtain rfl:=Option.some.inj hz
    have hs:b.spot=none:=by
     have:=(hq 0 (by omega)).1
     simpa using this
    refine⟨b.block,b.off,?_,(hq i (by omega)).2.1⟩
    cases b
    simp only at hs
    subst hs
    rfl
   ·rw[List.getElem?_eq_none (by simpa using hi)] at hz
    simp at hz
  ·obtain⟨i,hi,rfl⟩:=List.mem_map.1 hz
   exact (hq i (by have:=List.mem_range.1 hi;omega)).2.2.1
  ·obtain⟨i,hi,rfl⟩:=List.mem_map.1 hz
   exact (hq i (by have:=List.mem_range.1 hi;omega)).2.2.2.1
  ·rw[hps] at hx'
   rcases List.mem_append.1 hx' with h1 | h1
   ·rcases Nat.eq_zero_or_pos m with h0 | h0
    ·subst h0
     simp[MemPlace.row] at h1
    ·have hb:b.block<W.heap.size:=by
      have h:=lt_of_cell (hq 0 h0).2.1.1
      exact h
     have:x.block=b.block:=by
      unfold MemPlace.row at h1
      obtain⟨i,-,rfl⟩:=List.mem_map.1 h1
      rfl
     omega
   ·obtain⟨i,hi,hxi⟩:=List.mem_flatMap.1 h1
    rw[(hq i (List.mem_range.1 hi)).2.2.2.2] at hxi
    simp at hxi
theorem qpm (a:Act) (w:World) (d t:Nat) (u:TypeId) (ps:String) (ed:Array Edge) (gd:Option (Nat × Bool)) (b o o':Nat) (ho:o+0=o') (h1:a.eval (.tmp t)=.pointer (some ⟨b,o,none⟩)) :
  (execOp a.eval { dst:=some d,op:=Op.fieldAddr 43 (.tmp t) 0,type:=u,pos:=ps,after:=ed,guard:=gd }).run prog w=.ok (.value (.pointer (some ⟨b,o',none⟩))) w:=by
 subst ho
 unfold execOp
 simp only[h1]
 go_simp
theorem zkx (a:Act) (w:World) (d t:Nat) (u:TypeId) (ps:String) (ed:Array Edge) (gd:Option (Nat × Bool)) (b o:Nat) (v:Value) (h1:a.eval (.tmp t)=.pointer (some ⟨b,o,none⟩)) (hc:w.cell? ⟨b,o,none⟩=some v) :
  (execOp a.eval { dst:=some d,op:=Op.load 3 (.tmp t),type:=u,pos:=ps,after:=ed,guard:=gd }).run prog w=.ok (.value v) w:=by
 unfold execOp
 simp only[h1]
 go_simp
theorem qpl (a:Act) (w:World) (d t:Nat) (u:TypeId) (ps:String) (ed:Array Edge) (gd:Option (Nat × Bool)) (b o o':Nat) (ho:o+1=o') (h1:a.eval (.tmp t)=.pointer (some ⟨b,o,none⟩)) :
  (execOp a.eval { dst:=some d,op:=Op.fieldAddr 43 (.tmp t) 1,type:=u,pos:=ps,after:=ed,guard:=gd }).run prog w=.ok (.value (.pointer (some ⟨b,o',none⟩))) w:=by
 subst ho
 unfold execOp
 simp only[h1]
 go_simp
theorem qpk (a:Act) (w:World) (d t:Nat) (u:TypeId) (ps:String) (ed:Array Edge) (gd:Option (Nat × Bool)) (b o:Nat) (v0 v1:Value) (h1:a.eval (.tmp t)=.pointer (some ⟨b,o,none⟩)) (c0:w.cell? ⟨b,o,none⟩=some v0) (c1:w.cell? ⟨b,o+1,none⟩=some v1) :
  (execOp a.eval { dst:=some d,op:=Op.load 41 (.tmp t),type:=u,pos:=ps,after:=ed,guard:=gd }).run prog w=.ok (.value (.agg #[v0,v1])) w:=by
 unfold execOp
 simp only[h1]
 go_simp
theorem qpj (a:Act) (w:World) (d t0:Nat) (u:TypeId) (ps:String) (ed:Array Edge) (gd:Option (Nat × Bool)) (z0:Value) (h0:a.eval (.tmp t0)=z0) :
  (execOp a.eval { dst:=some d,op:=Op.call { callee:=Callee.value (Operand.func 9),args:=#[Operand.tmp t0],argTypes:=#[41] },type:=u,pos:=ps,after:=ed,guard:=gd }).run prog w=.ok (.enter 9 #[z0]) w:=by
 unfold execOp
 go_simp
 rw[← h0]
 simp[Act.eval]
theorem qpi (a:Act) (w:World) (d t:Nat) (u:TypeId) (ps:String) (ed:Array Edge) (gd:Option (Nat × Bool)) (b o o':Nat) (ho:o+3=o') (h1:a.eval (.tmp t)=.pointer (some ⟨b,o,none⟩)) :
  (execOp a.eval { dst:=some d,op:=Op.fieldAddr 43 (.tmp t) 2,type:=u,pos:=ps,after:=ed,guard:=gd }).run prog w=.ok (.value (.pointer (some ⟨b,o',none⟩))) w:=by
 subst ho
 unfold execOp
 simp only[h1]
 go_simp
theorem qph (a:Act) (w:World) (d t:Nat) (u:TypeId) (ps:String) (ed:Array Edge) (gd:Option (Nat × Bool)) (b o o':Nat) (ho:o+4=o') (h1:a.eval (.tmp t)=.pointer (some ⟨b,o,none⟩)) :
  (execOp a.eval { dst:=some d,op:=Op.fieldAddr 43 (.tmp t) 3,type:=u,pos:=ps,after:=ed,guard:=gd }).run prog w=.ok (.value (.pointer (some ⟨b,o',none⟩))) w:=by
 subst ho
 unfold execOp
 simp only[h1]
 go_simp
theorem qpg (a:Act) (w:World) (d t:Nat) (u:TypeId) (ps:String) (ed:Array Edge) (gd:Option (Nat × Bool)) (b o o':Nat) (ho:o+5=o') (h1:a.eval (.tmp t)=.pointer (some ⟨b,o,none⟩)) :
  (execOp a.eval { dst:=some d,op:=Op.fieldAddr 43 (.tmp t) 4,type:=u,pos:=ps,after:=ed,guard:=gd }).run prog w=.ok (.value (.pointer (some ⟨b,o',none⟩))) w:=by
 subst ho
 unfold execOp
 simp only[h1]
 go_simp
theorem qpf (a:Act) (w:World) (d t:Nat) (u:TypeId) (ps:String) (ed:Array Edge) (gd:Option (Nat × Bool)) (b o o':Nat) (ho:o+6=o') (h1:a.eval (.tmp t)=.pointer (some ⟨b,o,none⟩)) :
  (execOp a.eval { dst:=some d,op:=Op.fieldAddr 43 (.tmp t) 5,type:=u,pos:=ps,after:=ed,guard:=gd }).run prog w=.ok (.value (.pointer (some ⟨b,o',none⟩))) w:=by
 subst ho
 unfold execOp
 simp only[h1]
 go_simp
theorem qpe (a:Act) (w:World) (d t:Nat) (u:TypeId) (ps:String) (ed:Array Edge) (gd:Option (Nat × Bool)) (b o o':Nat) (ho:o+7=o') (h1:a.eval (.tmp t)=.pointer (some ⟨b,o,none⟩)) :
  (execOp a.eval { dst:=some d,op:=Op.fieldAddr 43 (.tmp t) 6,type:=u,pos:=ps,after:=ed,guard:=gd }).run prog w=.ok (.value (.pointer (some ⟨b,o',none⟩))) w:=by
 subst ho
 unfold execOp
 simp only[h1]
 go_simp
theorem qhl (a:Act) (w:World) (d t:Nat) (u:TypeId) (ps:String) (ed:Array Edge) (gd:Option (Nat × Bool)) (b o:Nat) (v:Value) (h1:a.eval (.tmp t)=.pointer (some ⟨b,o,none⟩)) (hc:w.cell? ⟨b,o,none⟩=some v) :
  (execOp a.eval { dst:=some d,op:=Op.load 9 (.tmp t),type:=u,pos:=ps,after:=ed,guard:=gd }).run prog w=.ok (.value v) w:=by
 unfold execOp
 simp only[h1]
 go_simp
theorem qhk (a:Act) (w:World) (d t0 t1 t2 t3 t4 t5 t6:Nat) (u:TypeId) (ps:String) (ed:Array Edge) (gd:Option (Nat × Bool)) (z0:Int) (s1:Bool) (x1 y1:Int) (p1:Option Addr) (z2:Int) (z3:Int) (z4:Int) (z5:Int) (z6:ByteArray) (h0:a.eval (.tmp t0)=.int .i64 z0) (h1:a.eval (.tmp t1)=.agg #[.bool s1,.int .u64 x1,.int .u64 y1,.pointer p1]) (h2:a.eval (.tmp t2)=.int .i64 z2) (h3:a.eval (.tmp t3)=.int .i64 z3) (h4:a.eval (.tmp t4)=.int .i64 z4) (h5:a.eval (.tmp t5)=.int .i64 z5) (h6:a.eval (.tmp t6)=.string z6) :
  (execOp a.eval { dst:=some d,op:=Op.build 37 #[(0,Operand.tmp t0),(1,Operand.tmp t1),(2,Operand.tmp t2),(3,Operand.tmp t3),(4,Operand.tmp t4),(5,Operand.tmp t5),(6,Operand.tmp t6)],type:=u,pos:=ps,after:=ed,guard:=gd }).run prog w=.ok (.value (.agg #[.int .i64 z0,.bool s1,.int .u64 x1,.int .u64 y1,.pointer p1,.int .i64 z2,.int .i64 z3,.int .i64 z4,.int .i64 z5,.string z6])) w:=by
 unfold execOp
 simp only[List.map_toArray,List.map_cons,List.map_nil,h0,h1,h2,h3,h4,h5,h6]
 go_simp
theorem qhj (a:Act) (w:World) (d t:Nat) (u:TypeId) (ps:String) (ed:Array Edge) (gd:Option (Nat × Bool)) (z0:Int) (s1:Bool) (x1 y1:Int) (p1:Option Addr) (z2:Int) (z3:Int) (z4:Int) (z5:Int) (z6:ByteArray) (h1:a.eval (.tmp t)=.agg #[.int .i64 z0,.bool s1,.int .u64 x1,.int .u64 y1,.pointer p1,.int .i64 z2,.int .i64 z3,.int .i64 z4,.int .i64 z5,.string z6]) :
  (execOp a.eval { dst:=some d,op:=Op.buildSlice 23 1 #[(0,Operand.tmp t)],type:=u,pos:=ps,after:=ed,guard:=gd }).run prog w=.ok (.value (.slice (some ⟨w.heap.size,0,none⟩) 1 1)) (w.alloc (.cells #[.int .i64 z0,.bool s1,.int .u64 x1,.int .u64 y1,.pointer p1,.int .i64 z2,.int .i64 z3,.int .i64 z4,.int .i64 z5,.string z6] 37)):=by
 unfold execOp
 simp only[List.map_toArray,List.map_cons,List.map_nil,h1]
 go_simp
theorem qhi (a:Act) (w:World) (d t1 t2:Nat) (ps:String) (ed:Array Edge) (gd:Option (Nat × Bool)) (v0 v1 v':Value) (w':World) (h1:a.eval (.tmp t1)=v0) (h2:a.eval (.tmp t2)=v1) (hr:(Builtin.append_ #[23,23] 23 #[v0,v1]).run prog w=.ok v' w') :
  (execOp a.eval { dst:=some d,op:=Op.call { callee:=Callee.builtin Builtin.append,args:=#[Operand.tmp t1,Operand.tmp t2],argTypes:=#[23,23] },type := 23,pos:=ps,after:=ed,guard:=gd }).run prog w=.ok (.value v') w':=by
 unfold execOp
 simp only[resolve,invoke,builtin,Sem.run_bind,Sem.run_pure,Result.andThen_ok,List.map_toArray,List.map_cons,List.map_nil,h1,h2,hr]
def qjz:Oper:=⟨some 12,.move (.tmp 3),23, "plain.go:166",#[],none⟩
def qjy:Oper:=⟨some 13,.fieldAddr 43 (.tmp 5) 0,0, "plain.go:166",#[],none⟩
def qjx:Oper:=⟨some 14,.load 3 (.tmp 13),3, "plain.go:166",#[⟨1,.data⟩],none⟩
def qjw:Oper:=⟨some 15,.fieldAddr 43 (.tmp 5) 1,0, "plain.go:166",#[],none⟩
def qjv:Oper:=⟨some 16,.load 41 (.tmp 15),41, "plain.go:166",#[⟨3,.data⟩],none⟩
def qju:Oper:=⟨some 17,.call { callee:=.value (.func 9),args:=#[.tmp 16],argTypes:=#[41] },35, "plain.go:166",#[⟨4,.data⟩],none⟩
def qjt:Oper:=⟨some 18,.fieldAddr 43 (.tmp 5) 2,0, "plain.go:166",#[],none⟩
def qjs:Oper:=⟨some 19,.load 3 (.tmp 18),3, "plain.go:166",#[⟨6,.data⟩],none⟩
def qjr:Oper:=⟨some 20,.fieldAddr 43 (.tmp 5) 3,0, "plain.go:166",#[],none⟩
def qjq:Oper:=⟨some 21,.load 3 (.tmp 20),3, "plain.go:166",#[⟨8,.data⟩],none⟩
def qef:Oper:=⟨some 22,.fieldAddr 43 (.tmp 5) 4,0, "plain.go:166",#[],none⟩
def qee:Oper:=⟨some 23,.load 3 (.tmp 22),3, "plain.go:166",#[⟨10,.data⟩],none⟩
def qec:Oper:=⟨some 24,.fieldAddr 43 (.tmp 5) 5,0, "plain.go:166",#[],none⟩
def qeb:Oper:=⟨some 25,.load 3 (.tmp 24),3, "plain.go:166",#[⟨12,.data⟩],none⟩
def qea:Oper:=⟨some 26,.fieldAddr 43 (.tmp 5) 6,0, "plain.go:166",#[],none⟩
def qdz:Oper:=⟨some 27,.load 9 (.tmp 26),9, "plain.go:166",#[⟨14,.data⟩],none⟩
def qdy:Oper:=⟨some 28,.build 37 #[(0,.tmp 14),(1,.tmp 17),(2,.tmp 19),(3,.tmp 21),(4,.tmp 23),(5,.tmp 25),(6,.tmp 27)],37, "plain.go:166",#[⟨2,.data⟩,⟨5,.data⟩,⟨7,.data⟩,⟨9,.data⟩,⟨11,.data⟩,⟨13,.data⟩,⟨15,.data⟩],none⟩
def qdx:Oper:=⟨some 29,.buildSlice 23 1 #[(0,.tmp 28)],23, "plain.go:166",#[⟨16,.data⟩],none⟩
def qdw:Oper:=⟨some 30,.call { callee:=.builtin .append,args:=#[.tmp 12,.tmp 29],argTypes:=#[23,23] },23, "plain.go:166",#[⟨0,.data⟩,⟨17,.data⟩,⟨5,.chain⟩],none⟩
def qdv:Oper:=⟨some 3,.assign (.tmp 30),23, "plain.go:166",#[⟨18,.data⟩,⟨18,.chain⟩,⟨0,.phase⟩,⟨1,.phase⟩,⟨2,.phase⟩,⟨3,.phase⟩,⟨4,.phase⟩,⟨5,.phase⟩,⟨6,.phase⟩,⟨7,.phase⟩,⟨8,.phase⟩,⟨9,.phase⟩,⟨10,.phase⟩,⟨11,.phase⟩,⟨12,.phase⟩,⟨13,.phase⟩,⟨14,.phase⟩,⟨15,.phase⟩,⟨16,.phase⟩,⟨17,.phase⟩,⟨18,.phase⟩],none⟩
def l6:Array Oper:=#[qjz,qjy,qjx,qjw,qjv,qju,qjt,qjs,qjr,qjq,qef,qee,qec,qeb,qea,qdz,qdy,qdx,qdw,qdv]
structure zln (W0:World) (vo:Value) (g5:Nat) (kd:Int) (qu:Int) (qv:Int) (s1:Bool) (x1:Int) (y1:Int) (fq:Int) (li:Int) (ti:Int) (pq:Int) (tof:ByteArray) (g:Nat) (va:Value) (b17:Bool) (w:World):Prop where
 mem:But [] W0 w
 f17:b17=true→jy W0.heap.size w g [.int .i64 kd,.bool s1,.int .u64 x1,.int .u64 y1,.pointer none,.int .i64 fq,.int .i64 li,.int .i64 ti,.int .i64 pq,.string tof]
theorem zln.but {W0:World} {vo:Value} {g5:Nat} {kd:Int} {qu:Int} {qv:Int} {s1:Bool} {x1:Int} {y1:Int} {fq:Int} {li:Int} {ti:Int} {pq:Int} {tof:ByteArray} {g:Nat} {va:Value} {b17:Bool} {w w':World} (h:zln W0 vo g5 kd qu qv s1 x1 y1 fq li ti pq tof g va b17 w) (hb:But [] w w'):zln W0 vo g5 kd qu qv s1 x1 y1 fq li ti pq tof g va b17 w' :=
 { mem:=h.mem.trans' hb,f17:=fun e=>(h.f17 e).but hb }
theorem zln.s17 {W0:World} {vo:Value} {g5:Nat} {kd:Int} {qu:Int} {qv:Int} {s1:Bool} {x1:Int} {y1:Int} {fq:Int} {li:Int} {ti:Int} {pq:Int} {tof:ByteArray} {g:Nat} {va:Value} {b17:Bool} {w:World} (h:zln W0 vo g5 kd qu qv s1 x1 y1 fq li ti pq tof g va b17 w) (g':Nat) (hf:jy W0.heap.size w g' [.int .i64 kd,.bool s1,.int .u64 x1,.int .u64 y1,.pointer none,.int .i64 fq,.int .i64 li,.int .i64 ti,.int .i64 pq,.string tof]):zln W0 vo g5 kd qu qv s1 x1 y1 fq li ti pq tof g' va true w :=
 { mem:=h.mem,f17:=fun _=>hf }
def zeo (i:Nat):Nat:=match i with
 | 0=>12
 | 1=>13
 | 2=>14
 | 3=>15
 | 4=>16
 | 5=>17
 | 6=>18
 | 7=>19
 | 8=>20
 | 9=>21
 | 10=>22
 | 11=>23
 | 12=>24
 | 13=>25
 | 14=>26
 | 15=>27
 | 16=>28
 | 17=>29
 | 18=>30
 | _=>3
def zlm (i:Nat):Bool:=match i with
 | _=>true
def qdu (vo:Value) (g5:Nat) (kd:Int) (qu:Int) (qv:Int) (s1:Bool) (x1:Int) (y1:Int) (fq:Int) (li:Int) (ti:Int) (pq:Int) (tof:ByteArray) (g:Nat) (va:Value) (i:Nat):Value:=match i with
 | 0=>vo
 | 1=>.pointer (some ⟨g5,0,none⟩)
 | 2=>.int .i64 kd
 | 3=>.pointer (some ⟨g5,1,none⟩)
 | 4=>.agg #[.int .i64 qu,.int .i64 qv]
 | 5=>.agg #[.bool s1,.int .u64 x1,.int .u64 y1,.pointer none]
 | 6=>.pointer (some ⟨g5,3,none⟩)
 | 7=>.int .i64 fq
 | 8=>.pointer (some ⟨g5,4,none⟩)
 | 9=>.int .i64 li
 | 10=>.pointer (some ⟨g5,5,none⟩)
 | 11=>.int .i64 ti
 | 12=>.pointer (some ⟨g5,6,none⟩)
 | 13=>.int .i64 pq
 | 14=>.pointer (some ⟨g5,7,none⟩)
 | 15=>.string tof
 | 16=>.agg #[.int .i64 kd,.bool s1,.int .u64 x1,.int .u64 y1,.pointer none,.int .i64 fq,.int .i64 li,.int .i64 ti,.int .i64 pq,.string tof]
 | 17=>.slice (some ⟨g,0,none⟩) 1 1
 | 18=>va
 | _=>va
theorem qz:wu l6 [(2,1),(4,3),(5,4),(7,6),(9,8),(11,10),(13,12),(15,14),(16,2),(16,5),(16,7),(16,9),(16,11),(16,13),(16,15),(17,16),(18,0),(18,5),(18,17),(19,0),(19,1),(19,2),(19,3),(19,4),(19,5),(19,6),(19,7),(19,8),(19,9),(19,10),(19,11),(19,12),(19,13),(19,14),(19,15),(19,16),(19,17),(19,18)]=true:=by kernel_rfl
theorem zzk:∀ i j,i<20→j<20→zlm i=true→zlm j=true→zeo i=zeo j→i=j:=fun i j hi hj=>(by decide:∀ i,i<20→∀ j,j<20→zlm i=true→zlm j=true→zeo i=zeo j→i=j) i hi j hj
theorem zke (id:Nat) (Q:Exit→Act→World→Prop) (base:Act) (W0:World) (vo:Value) (g5:Nat) (kd:Int) (qu:Int) (qv:Int) (s1:Bool) (x1:Int) (y1:Int) (fq:Int) (li:Int) (ti:Int) (pq:Int) (tof:ByteArray) (Post:Value→World→Prop) (hs:30<base.tmps.size) (e3:base.eval (.tmp 3)=vo) (e5:base.eval (.tmp 5)=.pointer (some ⟨g5,0,none⟩))
  (c0:W0.cell? ⟨g5,0,none⟩=some (.int .i64 kd)) (c3:W0.cell? ⟨g5,3,none⟩=some (.int .i64 fq)) (c4:W0.cell? ⟨g5,4,none⟩=some (.int .i64 li)) (c5:W0.cell? ⟨g5,5,none⟩=some (.int .i64 ti)) (c6:W0.cell? ⟨g5,6,none⟩=some (.int .i64 pq)) (c7:W0.cell? ⟨g5,7,none⟩=some (.string tof)) (c1:W0.cell? ⟨g5,1,none⟩=some (.int .i64 qu)) (c2:W0.cell? ⟨g5,2,none⟩=some (.int .i64 qv))
  (PF:∀ w,Calls prog 9 #[.agg #[.int .i64 qu,.int .i64 qv]] w fun e w'=>e=.returned (.agg #[.bool s1,.int .u64 x1,.int .u64 y1,.pointer none])∧But [] w w')
  (AP:∀ w g,But [] W0 w→jy W0.heap.size w g [.int .i64 kd,.bool s1,.int .u64 x1,.int .u64 y1,.pointer none,.int .i64 fq,.int .i64 li,.int .i64 ti,.int .i64 pq,.string tof]→∃ v' w',(Builtin.append_ #[23,23] 23 #[vo,.slice (some ⟨g,0,none⟩) 1 1]).run prog w=.ok v' w'∧Post v' w')
  (hQ:∀ (g:Nat) (va:Value) w1,Post va w1→Q .normal (qx base [(12,vo),(13,.pointer (some ⟨g5,0,none⟩)),(14,.int .i64 kd),(15,.pointer (some ⟨g5,1,none⟩)),(16,.agg #[.int .i64 qu,.int .i64 qv]),(17,.agg #[.bool s1,.int .u64 x1,.int .u64 y1,.pointer none]),(18,.pointer (some ⟨g5,3,none⟩)),(19,.int .i64 fq),(20,.pointer (some ⟨g5,4,none⟩)),(21,.int .i64 li),(22,.pointer (some ⟨g5,5,none⟩)),(23,.int .i64 ti),(24,.pointer (some ⟨g5,6,none⟩)),(25,.int .i64 pq),(26,.pointer (some ⟨g5,7,none⟩)),(27,.string tof),(28,.agg #[.int .i64 kd,.bool s1,.int .u64 x1,.int .u64 y1,.pointer none,.int .i64 fq,.int .i64 li,.int .i64 ti,.int .i64 pq,.string tof]),(29,.slice (some ⟨g,0,none⟩) 1 1),(30,va),(3,va)]) w1) :
  (Code.region id l6 true).wp prog Q base W0:=by
 have hT:∀ i,i<20→zlm i=true→zeo i<base.tmps.size:=fun i hi _=>by
  have h:zeo i≤30:=by revert i;decide
  omega
 refine jm (by kernel_rfl) (wh (by kernel_rfl)) (iy (by kernel_rfl)) (fun (N:(Nat) × (Value)) d w=>∃ w1,zln W0 vo g5 kd qu qv s1 x1 y1 fq li ti pq tof N.1 N.2 (d 17) w1∧(d 18=false→w=w1)∧(d 18=true→Post N.2 w)) (fun N=>qdu vo g5 kd qu qv s1 x1 y1 fq li ti pq tof N.1 N.2) zeo zlm 20 (by kernel_rfl) zzk hT (0,undef) ⟨_,{ mem:=(But.refl _ _).drew,f17:=fun h=>by simp at h },fun _=>rfl,fun h=>by simp at h⟩ ?_ ?_
 ·intro N d i o a w K hi ho hdi hcl hH he hdep hK
  have hD:=pz qz ho (fun j=>d j=true∧(zlm j=true→a.eval (.tmp (zeo j))=qdu vo g5 kd qu qv s1 x1 y1 fq li ti pq tof N.1 N.2 j)) hdep
  have e5':=(he 5 (fun j hj _ _=>(by decide:∀ j,j<20→(5:Nat)≠zeo j) j hj)).trans e5
  have:i=0∨i=1∨i=2∨i=3∨i=4∨i=5∨i=6∨i=7∨i=8∨i=9∨i=10∨i=11∨i=12∨i=13∨i=14∨i=15∨i=16∨i=17∨i=18∨i=19:=by omega
  rcases this with rfl|rfl|rfl|rfl|rfl|rfl|rfl|rfl|rfl|rfl|rfl|rfl|rfl|rfl|rfl|rfl|rfl|rfl|rfl|rfl
  ·obtain rfl:=so (show l6[0]? =some qjz from rfl) ho
   have e3':=(he 3 (fun j hj _ hdj e=>by
    by_cases hj2:j=19
    ·subst hj2;exact absurd ((hcl.not qz (i:=19) (j:=0) (by simp) hdi).symm.trans hdj) (by simp)
    ·exact absurd e ((by decide:∀ j,j<20→j≠19→(3:Nat)≠zeo j) j hj hj2))).trans e3
   exact zh (zz a w _ _ _ _ _ _ _ e3') (hK N _ _ (fun _=>rfl) (fun _ _ _ _=>rfl) hH)
  ·obtain rfl:=so (show l6[1]? =some qjy from rfl) ho
   exact zh (qpm a w _ _ _ _ _ _ g5 (0) (0) rfl e5') (hK N _ _ (fun _=>rfl) (fun _ _ _ _=>rfl) hH)
  ·obtain rfl:=so (show l6[2]? =some qjx from rfl) ho
   have hs0:d 18=false:=(hcl.not qz (i:=18) (j:=17) (by simp) (hcl.not qz (i:=17) (j:=16) (by simp) (hcl.not qz (i:=16) (j:=2) (by simp) hdi)))
   obtain⟨w1,hP,h1,h2⟩:=hH
   obtain rfl:=h1 hs0
   have hW:=hP.mem
   exact zh (zkx a w _ _ _ _ _ _ g5 (0) _ ((hD 1 (by simp)).2 rfl) (hW.zb c0 (by simp))) (hK N _ _ (fun _=>rfl) (fun _ _ _ _=>rfl) ⟨_,hP,h1,h2⟩)
  ·obtain rfl:=so (show l6[3]? =some qjw from rfl) ho
   exact zh (qpl a w _ _ _ _ _ _ g5 (0) (1) rfl e5') (hK N _ _ (fun _=>rfl) (fun _ _ _ _=>rfl) hH)
  ·obtain rfl:=so (show l6[4]? =some qjv from rfl) ho
   have hs0:d 18=false:=(hcl.not qz (i:=18) (j:=5) (by simp) (hcl.not qz (i:=5) (j:=4) (by simp) hdi))
   obtain⟨w1,hP,h1,h2⟩:=hH
   obtain rfl:=h1 hs0
   have hW:=hP.mem
   exact zh (qpk a w _ _ _ _ _ _ g5 (1) _ _ ((hD 3 (by simp)).2 rfl) (hW.zb c1 (by simp)) (hW.zb c2 (by simp))) (hK N _ _ (fun _=>rfl) (fun _ _ _ _=>rfl) ⟨_,hP,h1,h2⟩)
  ·obtain rfl:=so (show l6[5]? =some qju from rfl) ho
   have hs0:d 18=false:=(hcl.not qz (i:=18) (j:=5) (by simp) hdi)
   obtain⟨w1,hP,h1,h2⟩:=hH
   obtain rfl:=h1 hs0
   have hW:=hP.mem
   exact jd (qpj a w _ _ _ _ _ _ _ ((hD 4 (by simp)).2 rfl)) (R:=fun w' v=>v=qdu vo g5 kd qu qv s1 x1 y1 fq li ti pq tof N.1 N.2 5∧But [] w w') ((PF w).mono fun e w' ⟨he,hb⟩=>⟨_,he,rfl,hb⟩) (fun v w' hv=>hK N _ _ (fun _=>hv.1) (fun _ _ _ _=>rfl) ⟨_,(hP.but hv.2),fun _=>rfl,fun h=>absurd (hs0.symm.trans h) (by simp)⟩)
  ·obtain rfl:=so (show l6[6]? =some qjt from rfl) ho
   exact zh (qpi a w _ _ _ _ _ _ g5 (0) (3) rfl e5') (hK N _ _ (fun _=>rfl) (fun _ _ _ _=>rfl) hH)
  ·obtain rfl:=so (show l6[7]? =some qjs from rfl) ho
   have hs0:d 18=false:=(hcl.not qz (i:=18) (j:=17) (by simp) (hcl.not qz (i:=17) (j:=16) (by simp) (hcl.not qz (i:=16) (j:=7) (by simp) hdi)))
   obtain⟨w1,hP,h1,h2⟩:=hH
   obtain rfl:=h1 hs0
   have hW:=hP.mem
   exact zh (zkx a w _ _ _ _ _ _ g5 (3) _ ((hD 6 (by simp)).2 rfl) (hW.zb c3 (by simp))) (hK N _ _ (fun _=>rfl) (fun _ _ _ _=>rfl) ⟨_,hP,h1,h2⟩)
  ·obtain rfl:=so (show l6[8]? =some qjr from rfl) ho
   exact zh (qph a w _ _ _ _ _ _ g5 (0) (4) rfl e5') (hK N _ _ (fun _=>rfl) (fun _ _ _ _=>rfl) hH)
  ·obtain rfl:=so (show l6[9]? =some qjq from rfl) ho
   have hs0:d 18=false:=(hcl.not qz (i:=18) (j:=17) (by simp) (hcl.not qz (i:=17) (j:=16) (by simp) (hcl.not qz (i:=16) (j:=9) (by simp) hdi)))
   obtain⟨w1,hP,h1,h2⟩:=hH
   obtain rfl:=h1 hs0
   have hW:=hP.mem
   exact zh (zkx a w _ _ _ _ _ _ g5 (4) _ ((hD 8 (by simp)).2 rfl) (hW.zb c4 (by simp))) (hK N _ _ (fun _=>rfl) (fun _ _ _ _=>rfl) ⟨_,hP,h1,h2⟩)
  ·obtain rfl:=so (show l6[10]? =some qef from rfl) ho
   exact zh (qpg a w _ _ _ _ _ _ g5 (0) (5) rfl e5') (hK N _ _ (fun _=>rfl) (fun _ _ _ _=>rfl) hH)
  ·obtain rfl:=so (show l6[11]? =some qee from rfl) ho
   have hs0:d 18=false:=(hcl.not qz (i:=18) (j:=17) (by simp) (hcl.not qz (i:=17) (j:=16) (by simp) (hcl.not qz (i:=16) (j:=11) (by simp) hdi)))
   obtain⟨w1,hP,h1,h2⟩:=hH
   obtain rfl:=h1 hs0
   have hW:=hP.mem
   exact zh (zkx a w _ _ _ _ _ _ g5 (5) _ ((hD 10 (by simp)).2 rfl) (hW.zb c5 (by simp))) (hK N _ _ (fun _=>rfl) (fun _ _ _ _=>rfl) ⟨_,hP,h1,h2⟩)
  ·obtain rfl:=so (show l6[12]? =some qec from rfl) ho
   exact zh (qpf a w _ _ _ _ _ _ g5 (0) (6) rfl e5') (hK N _ _ (fun _=>rfl) (fun _ _ _ _=>rfl) hH)
  ·obtain rfl:=so (show l6[13]? =some qeb from rfl) ho
   have hs0:d 18=false:=(hcl.not qz (i:=18) (j:=17) (by simp) (hcl.not qz (i:=17) (j:=16) (by simp) (hcl.not qz (i:=16) (j:=13) (by simp) hdi)))
   obtain⟨w1,hP,h1,h2⟩:=hH
   obtain rfl:=h1 hs0
   have hW:=hP.mem
   exact zh (zkx a w _ _ _ _ _ _ g5 (6) _ ((hD 12 (by simp)).2 rfl) (hW.zb c6 (by simp))) (hK N _ _ (fun _=>rfl) (fun _ _ _ _=>rfl) ⟨_,hP,h1,h2⟩)
  ·obtain rfl:=so (show l6[14]? =some qea from rfl) ho
   exact zh (qpe a w _ _ _ _ _ _ g5 (0) (7) rfl e5') (hK N _ _ (fun _=>rfl) (fun _ _ _ _=>rfl) hH)
  ·obtain rfl:=so (show l6[15]? =some qdz from rfl) ho
   have hs0:d 18=false:=(hcl.not qz (i:=18) (j:=17) (by simp) (hcl.not qz (i:=17) (j:=16) (by simp) (hcl.not qz (i:=16) (j:=15) (by simp) hdi)))
   obtain⟨w1,hP,h1,h2⟩:=hH
   obtain rfl:=h1 hs0
   have hW:=hP.mem
   exact zh (qhl a w _ _ _ _ _ _ g5 (7) _ ((hD 14 (by simp)).2 rfl) (hW.zb c7 (by simp))) (hK N _ _ (fun _=>rfl) (fun _ _ _ _=>rfl) ⟨_,hP,h1,h2⟩)
  ·obtain rfl:=so (show l6[16]? =some qdy from rfl) ho
   exact zh (qhk a w _ _ _ _ _ _ _ _ _ _ _ _ _ _ _ _ _ _ _ _ _ _ ((hD 2 (by simp)).2 rfl) ((hD 5 (by simp)).2 rfl) ((hD 7 (by simp)).2 rfl) ((hD 9 (by simp)).2 rfl) ((hD 11 (by simp)).2 rfl) ((hD 13 (by simp)).2 rfl) ((hD 15 (by simp)).2 rfl)) (hK N _ _ (fun _=>rfl) (fun _ _ _ _=>rfl) hH)
  ·obtain rfl:=so (show l6[17]? =some qdx from rfl) ho
   have hs0:d 18=false:=(hcl.not qz (i:=18) (j:=17) (by simp) hdi)
   obtain⟨w1,hP,h1,h2⟩:=hH
   obtain rfl:=h1 hs0
   have hW:=hP.mem
   have bA:But [] w (w.alloc (.cells #[.int .i64 kd,.bool s1,.int .u64 x1,.int .u64 y1,.pointer none,.int .i64 fq,.int .i64 li,.int .i64 ti,.int .i64 pq,.string tof] 37)):=(But.refl _ _).alloc _
   have hsz:=hW.size
   exact zh (qhj a w _ _ _ _ _ _ _ _ _ _ _ _ _ _ _ _ ((hD 16 (by simp)).2 rfl)) (hK (w.heap.size,N.2) _ _ (fun _=>rfl) (fun j hj _ hdj=>by
    have:j=0∨j=1∨j=2∨j=3∨j=4∨j=5∨j=6∨j=7∨j=8∨j=9∨j=10∨j=11∨j=12∨j=13∨j=14∨j=15∨j=16∨j=17∨j=18∨j=19:=by omega
    rcases this with rfl|rfl|rfl|rfl|rfl|rfl|rfl|rfl|rfl|rfl|rfl|rfl|rfl|rfl|rfl|rfl|rfl|rfl|rfl|rfl
    ·rfl
    ·rfl
    ·rfl
    ·rfl
    ·rfl
    ·rfl
    ·rfl
    ·rfl
    ·rfl
    ·rfl
    ·rfl
    ·rfl
    ·rfl
    ·rfl
    ·rfl
    ·rfl
    ·rfl
    ·exact absurd (hdi.symm.trans hdj) (by simp)
    ·rfl
    ·rfl) ⟨_,((hP.but bA).s17 w.heap.size (jy.made _ w [.int .i64 kd,.bool s1,.int .u64 x1,.int .u64 y1,.pointer none,.int .i64 fq,.int .i64 li,.int .i64 ti,.int .i64 pq,.string tof] _ hsz)),fun _=>rfl,fun h=>absurd (hs0.symm.trans h) (by simp)⟩)
  ·obtain rfl:=so (show l6[18]? =some qdw from rfl) ho
   obtain⟨w1,hP,h1,h2⟩:=hH
   obtain rfl:=h1 hdi
   have hW:=hP.mem
   have t17:d 17=true:=(hD 17 (by simp)).1
   obtain⟨v',w',hr,hpost⟩:=AP w N.1 hW (hP.f17 t17)
   exact zh (qhi a w _ _ _ _ _ _ _ _ v' w' ((hD 0 (by simp)).2 rfl) ((hD 17 (by simp)).2 rfl) hr) (hK (N.1,v') _ _ (fun _=>rfl) (fun j hj _ hdj=>by
    have:j=0∨j=1∨j=2∨j=3∨j=4∨j=5∨j=6∨j=7∨j=8∨j=9∨j=10∨j=11∨j=12∨j=13∨j=14∨j=15∨j=16∨j=17∨j=18∨j=19:=by omega
    rcases this with rfl|rfl|rfl|rfl|rfl|rfl|rfl|rfl|rfl|rfl|rfl|rfl|rfl|rfl|rfl|rfl|rfl|rfl|rfl|rfl
    ·rfl
    ·rfl
    ·rfl
    ·rfl
    ·rfl
    ·rfl
    ·rfl
    ·rfl
    ·rfl
    ·rfl
    ·rfl
    ·rfl
    ·rfl
    ·rfl
    ·rfl
    ·rfl
    ·rfl
    ·rfl
    ·exact absurd (hdi.symm.trans hdj) (by simp)
    ·exact absurd ((hcl.not qz (i:=19) (j:=18) (by simp) hdi).symm.trans hdj) (by simp)) ⟨w,{ mem:=hP.mem,f17:=hP.f17 },fun h=>absurd h (by rw[q9];simp),fun _=>hpost⟩)
  ·obtain rfl:=so (show l6[19]? =some qdv from rfl) ho
   exact zh (zae a w _ _ _ _ _ _ _ ((hD 18 (by simp)).2 rfl)) (hK N _ _ (fun _=>rfl) (fun _ _ _ _=>rfl) hH)
 ·intro N d w hd hH
  obtain⟨w1,hP,h1,h2⟩:=hH
  exact hQ N.1 N.2 w (h2 (hd 18 (by omega)))
theorem zix (q:Option Addr) (n c:Nat) (ps:List PL) (w:World) (hv:znh w (.slice q n c) ps) (hn:n≤45) (hf:∀ p ∈ ps,Fits (p.qu,p.qv)) :
  Calls prog 4 #[.slice q n c] w fun e w'=>∃ v,e=.returned v∧y7 w.heap.size w' v (ps.map zgz)∧But [] w w':=by
 have hnl:n=ps.length:=by
  obtain⟨a,cap,e,-⟩:=hv
  simp only[Value.slice.injEq] at e
  exact e.2.1
 have HV:=hide hv
 have HF:=hide hf
 have HNL:=hide hnl
 clear hv hf hnl
 go_enter func4,ntmps4
 go_wp2
 go_loopw [3,8] (fun v i wr=>∃ k:Nat,k≤n∧i=.int .i64 (k:Int)∧Hid (y7 w.heap.size wr v ((ps.take k).map zgz))∧Hid (But [] w wr)) (fun _ i _=>n-(intOf i).toNat)
 case atStart=>exact⟨0,Nat.zero_le _,rfl,y7.nil _ _,But.refl _ _⟩
 case round =>
  obtain⟨k,hk,rfl,HR,HB⟩:=hrel
  rename World=>wr
  by_cases hlt:k<n
  ·have hkl:k<ps.length:=by have:=za HNL;omega
   have hge:ps[k]? = some ps[k]:=List.getElem?_eq_getElem hkl
   have hmem:ps[k] ∈ ps:=List.getElem_mem hkl
   obtain⟨a',cap',ea,-,hc⟩:=(za HV).but (za HB)
   simp only[Value.slice.injEq] at ea
   obtain⟨rfl,-,rfl⟩:=ea
   obtain⟨b,off,rfl,c0,c1,c2,c3,c4,c5,c6,c7⟩:=hc k _ hge
   obtain⟨s1,x1,y1,lq,FQ,CQ⟩:=zou (ps[k].qu,ps[k].qv) (za HF _ hmem)
   have htk:(ps.take (k+1)).map zgz=(ps.take k).map zgz++[zgz ps[k]]:=by rw[List.take_add_one,hge,List.map_append];rfl
   have hlen:((ps.take k).map zgz).length=k:=by simp;omega
   obtain⟨p,hp⟩:∃ p,p=ps[k]:=⟨_,rfl⟩
   rw[← hp] at c0 c1 c2 c3 c4 c5 c6 c7 htk
   simp only[← hp] at FQ CQ
   have HTK:=hide htk
   have HLEN:=hide hlen
   have HFQ:=hide FQ
   have HCQ:=hide CQ
   have bB:But [] wr (wr.alloc (.cells #[.int .i64 p.kd,.int .i64 p.qu,.int .i64 p.qv,.int .i64 p.fr,.int .i64 p.li,.int .i64 p.ti,.int .i64 p.pr,.string p.to] 43)):=(But.refl [] wr).alloc _
   have D5:=hide (jy.made wr.heap.size wr [.int .i64 p.kd,.int .i64 p.qu,.int .i64 p.qv,.int .i64 p.fr,.int .i64 p.li,.int .i64 p.ti,.int .i64 p.pr,.string p.to] 43 (Nat.le_refl _))
   have HR1:=hide ((za HR).but bB)
   have HB1:=hide ((za HB).trans' bB)
   clear hge hmem hc FQ CQ hp lq htk hlen bB HR HB
   go_wp2
   generalize wr.alloc (.cells #[.int .i64 p.kd,.int .i64 p.qu,.int .i64 p.qv,.int .i64 p.fr,.int .i64 p.li,.int .i64 p.ti,.int .i64 p.pr,.string p.to] 43)=V1 at *
   generalize wr.heap.size=g5 at D5 ⊢
   have d5:=za D5
   refine zke 5 _ _ V1 u3 g5 p.kd p.qu p.qv s1 x1 y1 p.fr p.li p.ti p.pr p.to (fun v' w'=>y7 w.heap.size w' v' ((ps.take k).map zgz++[zgz p])∧But [] w w') (by simp) (by simp[Act.eval]) (by simp[Act.eval]) (d5.cells 0 _ rfl) (d5.cells 3 _ rfl) (d5.cells 4 _ rfl) (d5.cells 5 _ rfl) (d5.cells 6 _ rfl) (d5.cells 7 _ rfl) (d5.cells 1 _ rfl) (d5.cells 2 _ rfl) (za HCQ) (fun W g hb hN=>by
    have hbw:=(za HB1).trans' hb
    obtain⟨v',w',hr,h1,h2⟩:=((za HR1).but hb).app hbw.size (by have:=za HLEN;omega) (zgz p) s1 x1 y1 (za HFQ) g (fun r u hu=>hN.cells r u hu)
    exact⟨v',w',hr,h1,h2 w hbw (Nat.le_refl _)⟩) ?_
   intro g va w1 hP
   simp only[qx,List.foldl_cons,List.foldl_nil,Act.put,List.setIfInBounds_toArray,List.set_cons_zero,List.set_cons_succ]
   rw[← za HTK] at hP
   have HP1:=hide hP.1
   have HP2:=hide hP.2
   clear hP d5 D5 HR1 HB1 c0 c1 c2 c3 c4 c5 c6 c7
   go_wp2
   exact⟨⟨k+1,by omega,by go_num,za HP1,za HP2⟩,by simp[intOf];omega⟩
  ·obtain rfl:k=n:=by omega
   have hall:(ps.take k).map zgz=ps.map zgz:=by rw[List.take_of_length_le (by have:=za HNL;omega)]
   rw[hall] at HR
   clear hall
   go_wp2
   exact bodyPost_ret (v:=u3) (by simp[results,results4,go_sem]) rfl ⟨u3,rfl,za HR,za HB⟩
end Go.Proofs.YtcgecpoedojhjaaGreatDoor
