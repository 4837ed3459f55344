/- The reference's lines: a row of the call -/
import Derived.Test.YtjlfllhedceigaaGreatDoorRT3r
namespace Go.Proofs.YtjlfllhedceigaaGreatDoor
set_option linter.unusedVariables false
open Go.Proofs.Tryz
open Go.RowKit
set_option maxHeartbeats 16000000
set_option maxRecDepth 100000
def rlc (l:Ln) (zb:Nat):List Value:=[.int .i64 l.kd,.pointer (some ⟨zb,0,none⟩),.int .i64 l.fr,.int .i64 l.li,.int .i64 l.ti,.int .i64 l.pr,.string l.toB]
structure zdq (w:World) (base:Nat) (v:Value) (ls:List Ln) (us:List Value):Prop where
 own:w.ownsRow base 135 7 v ls.length us
 len:us.length=ls.length*7
 val:∀ i l,ls[i]? = some l→∃ zb,(∀ r u,(rlc l zb)[r]? = some u→us[i*7+r]? = some u)∧zx w zb l.f
 nil:ls=[]→v=.slice none 0 0
theorem zdq.empty (w:World) (base:Nat):zdq w base (.slice none 0 0) [] []:=⟨World.ownsRow_nil _ _ _ _,rfl,fun i l h=>by simp at h,fun _=>rfl⟩
theorem zdq.but {w w':World} {base:Nat} {v:Value} {ls:List Ln} {us:List Value} (h:zdq w base v ls us) (hb:But [] w w'):zdq w' base v ls us :=
 ⟨zcp h.own hb,h.len,fun i l hi=>(h.val i l hi).elim fun zb ⟨e,p⟩=>⟨zb,e,p.but hb⟩,h.nil⟩
def qgo (w:World) (b o:Nat) (l:Ln):Prop:=∃ zb,(∀ r u,(rlc l zb)[r]? = some u→w.cell? ⟨b,o+r,none⟩=some u)∧zx w zb l.f
theorem qgo.but {w w':World} {b o:Nat} {l:Ln} (h:qgo w b o l) (hb:But [] w w'):qgo w' b o l:=by
 obtain⟨zb,h1,h2⟩:=h
 exact⟨zb,fun r u hu=>hb.ag (h1 r u hu) (by simp),h2.but hb⟩
def zic (w:World) (v:Value) (ls:List Ln):Prop:=∃ a cap,v=.slice a ls.length cap∧ls.length≤cap∧∀ i l,ls[i]? = some l→∃ b off,a=some ⟨b,off,none⟩∧qgo w b (off+i*7) l
theorem zic.but {w w':World} {v:Value} {ls:List Ln} (h:zic w v ls) (hb:But [] w w'):zic w' v ls:=by(
 obtain⟨a,cap,e,hc,h⟩:=h
 refine⟨a,cap,e,hc,fun i p hp=>?_⟩
 obtain⟨b,off,e1,h1⟩:=h i p hp
 exact⟨b,off,e1,h1.but hb⟩)
theorem zdq.block {w:World} {base:Nat} {v:Value} {ls:List Ln} {us:List Value} (h:zdq w base v ls us) (h0:ls≠[]):∃ g cap,v=.slice (some ⟨g,0,none⟩) ls.length cap∧ls.length≤cap∧v.ownBlock=some g∧∀ i u,us[i]? = some u→w.cell? ⟨g,i,none⟩=some u:=by(
 have hl:0<ls.length:=List.length_pos_iff.2 h0
 rcases h.own.2 with ⟨-,e⟩|⟨g,cap,cur,e,h1,h2,h3,-⟩
 ·omega
 ·(
 refine⟨g,cap,e,h3,by rw[e];rfl,fun i u hu=>?_⟩
 have hc:=h.own.cells (g:=g) (by rw[e];rfl) i u hu
 have ea:(⟨g,0,none⟩:Addr).add i=⟨g,i,none⟩:=by
  by_cases hz:i=0
  ·simp[Addr.add,hz]
  ·simp[Addr.add,hz]
 rw[ea] at hc
 exact hc))
theorem zdq.lines {w:World} {base:Nat} {v:Value} {ls:List Ln} {us:List Value} (h:zdq w base v ls us):zic w v ls:=by(
 by_cases h0:ls=[]
 ·subst h0
  rw[h.nil rfl]
  exact⟨none,0,rfl,Nat.le_refl _,fun i x hx=>by simp at hx⟩
 ·(
 obtain⟨g,cap,e,h3,-,hall⟩:=h.block h0
 refine⟨_,cap,e,h3,fun i l hi=>⟨g,0,rfl,?_⟩⟩
 obtain⟨zb,hz,hr⟩:=h.val i l hi
 refine⟨zb,fun r u hu=>?_,hr⟩
 rw[Nat.zero_add]
 exact hall _ _ (hz r u hu)))
theorem zon:∃ i,prog.info? 135 = some i∧i.zero=some (.agg #[.int .i64 0,.pointer none,.int .i64 0,.int .i64 0,.int .i64 0,.int .i64 0,.string ⟨#[]⟩])∧i.size=7∧i.bytes=64:=by(
 have h:(prog.info? 135).map (fun i=>(i.zero,i.size,i.bytes))=some (some (.agg #[.int .i64 0,.pointer none,.int .i64 0,.int .i64 0,.int .i64 0,.int .i64 0,.string ⟨#[]⟩]),7,64):=by kernel_rfl
 cases e:prog.info? 135 with
 | none=>rw[e] at h;simp at h
 | some i =>
  rw[e] at h
  simp only[Option.map_some,Option.some.injEq,Prod.mk.injEq] at h
  exact⟨i,rfl,h.1,h.2.1,h.2.2⟩)
theorem zrg (w w0:World) (v:Value) (ls:List Ln) (us:List Value) (base:Nat) (hown:zdq w base v ls us) (g zb:Nat) (l:Ln) (hc:∀ r u,(rlc l zb)[r]? = some u→w.cell? ⟨g,r,none⟩=some u) (hp:zx w zb l.f) (hk:ls.length<100000) (h0:But [] w0 w) (hb:w0.heap.size≤base) (hw:base≤w.heap.size) :
   ∃ v' w',(Builtin.append_ #[60,60] 60 #[v,.slice (some ⟨g,0,none⟩) 1 1]).run prog w=.ok v' w'∧zdq w' base v' (ls++[l]) (us++rlc l zb)∧But [] w0 w':=by(
 obtain⟨i0,hi,hz0,hz1,hz2⟩:=zon
 obtain⟨v',w',hr,ho,hg,-⟩:=run_append_own (P:=prog) w base 60 60 135 i0 _ 7 64 underlying60 hi hz0 hz1 hz2 rfl (by decide) v ls.length us hown.own ⟨g,0,none⟩ 1 1 (rlc l zb) rfl (fun j u hj=>by
   have:=hc j u hj
   have e:(Addr.add ⟨g,0,none⟩ j)=⟨g,j,none⟩:=by simp[Addr.add];omega
   rw[e]
   exact this) (fun u hu=>by
   simp only[rlc,List.mem_cons,List.not_mem_nil,or_false] at hu
   rcases hu with rfl|rfl|rfl|rfl|rfl|rfl|rfl <;> rfl) (by unfold maxLen;omega) (by omega) hw
 have hB:But v.ownBlock.toList w w':=⟨hg.os,hg.tape,hg.output,hg.size,fun j hj hn=>hg.block j hj (by
  intro e
  rw[← e] at hn
  simp at hn)⟩
 have stay:∀ (b:Nat) (r:Rat),zx w b r→zx w' b r:=by
  by_cases h1:ls=[]
  ·have:v.ownBlock=none:=by rw[hown.nil h1];rfl
   rw[this] at hB
   exact fun b r h=>h.but hB
  ·obtain⟨gb,cap,-,-,e2,hall⟩:=hown.block h1
   rw[e2] at hB
   have hl:0<ls.length:=List.length_pos_iff.2 h1
   obtain⟨z0,hz,-⟩:=hown.val 0 _ (List.getElem?_eq_getElem hl)
   exact fun b r h=>h.zuj hB (hall _ _ (hz 0 _ rfl)) (zxb _)
 refine⟨v',w',hr,⟨by rw[List.length_append];exact ho,by rw[List.length_append,List.length_append,hown.len];simp[rlc];omega,fun i l' hi=>?_,fun e=>by simp at e⟩,zft h0 hown.own hb hg⟩
 have hl:=hown.len
 rcases Nat.lt_or_ge i ls.length with hlt | hge
 ·(
 rw[List.getElem?_append_left hlt] at hi
 obtain⟨z1,k1,k2⟩:=hown.val i l' hi
 refine⟨z1,fun r u hu=>?_,stay _ _ k2⟩
 have hr7:r<7:=by have:=(List.getElem?_eq_some_iff.1 hu).1;simpa [rlc] using this
 rw[List.getElem?_append_left (by omega)]
 exact k1 r u hu)
 ·(
 have hi':=(List.getElem?_eq_some_iff.1 hi).1
 rw[List.length_append] at hi'
 obtain rfl:i=ls.length:=by simp at hi';omega
 rw[List.getElem?_append_right (by omega),Nat.sub_self] at hi
 obtain rfl:l=l':=by simpa using hi
 refine⟨zb,fun r u hu=>?_,stay _ _ hp⟩
 rw[List.getElem?_append_right (by omega),show ls.length*7+r-us.length=r by omega]
 exact hu))
structure zrj (B:Nat) (kd fq li ti pq:Int) (tof:ByteArray) (r1:Rat) (w:World) (x:Nat × Nat):Prop where
 box:p9 B w x.1 [.int .i64 kd,.pointer (some ⟨x.2,0,none⟩),.int .i64 fq,.int .i64 li,.int .i64 ti,.int .i64 pq,.string tof]
 num:zx w x.2 r1
theorem zrj.but {B:Nat} {kd fq li ti pq:Int} {tof:ByteArray} {r1:Rat} {w w':World} {x:Nat × Nat} (h:zrj B kd fq li ti pq tof r1 w x) (hb:But [] w w'):zrj B kd fq li ti pq tof r1 w' x:=⟨h.box.but hb,h.num.but hb⟩
theorem qiq (a:Act) (w:World) (d t:Nat) (u:TypeId) (ps:String) (ed:Array Edge) (gd:Option (Nat × Bool)) (b o o':Nat) (ho:o+0=o') (h1:a.eval (.tmp t)=.pointer (some ⟨b,o,none⟩)) :
   (execOp a.eval { dst:=some d,op:=Op.fieldAddr 133 (.tmp t) 0,type:=u,pos:=ps,after:=ed,guard:=gd }).run prog w=.ok (.value (.pointer (some ⟨b,o',none⟩))) w:=by(
 subst ho
 unfold execOp
 simp only[h1]
 go_simp)
theorem zjw (a:Act) (w:World) (d t:Nat) (u:TypeId) (ps:String) (ed:Array Edge) (gd:Option (Nat × Bool)) (b o:Nat) (v:Value) (h1:a.eval (.tmp t)=.pointer (some ⟨b,o,none⟩)) (hc:w.cell? ⟨b,o,none⟩=some v) :
   (execOp a.eval { dst:=some d,op:=Op.load 3 (.tmp t),type:=u,pos:=ps,after:=ed,guard:=gd }).run prog w=.ok (.value v) w:=by(
 unfold execOp
 simp only[h1]
 go_simp)
theorem qip (a:Act) (w:World) (d t:Nat) (u:TypeId) (ps:String) (ed:Array Edge) (gd:Option (Nat × Bool)) (b o o':Nat) (ho:o+1=o') (h1:a.eval (.tmp t)=.pointer (some ⟨b,o,none⟩)) :
   (execOp a.eval { dst:=some d,op:=Op.fieldAddr 133 (.tmp t) 1,type:=u,pos:=ps,after:=ed,guard:=gd }).run prog w=.ok (.value (.pointer (some ⟨b,o',none⟩))) w:=by(
 subst ho
 unfold execOp
 simp only[h1]
 go_simp)
theorem qio (a:Act) (w:World) (d t:Nat) (u:TypeId) (ps:String) (ed:Array Edge) (gd:Option (Nat × Bool)) (b o:Nat) (v0 v1:Value) (h1:a.eval (.tmp t)=.pointer (some ⟨b,o,none⟩)) (c0:w.cell? ⟨b,o,none⟩=some v0) (c1:w.cell? ⟨b,o+1,none⟩=some v1) :
   (execOp a.eval { dst:=some d,op:=Op.load 23 (.tmp t),type:=u,pos:=ps,after:=ed,guard:=gd }).run prog w=.ok (.value (.agg #[v0,v1])) w:=by(
 unfold execOp
 simp only[h1]
 go_simp)
theorem qin (a:Act) (w:World) (d t0:Nat) (u:TypeId) (ps:String) (ed:Array Edge) (gd:Option (Nat × Bool)) (z0:Value) (h0:a.eval (.tmp t0)=z0) :
   (execOp a.eval { dst:=some d,op:=Op.call { callee:=Callee.value (Operand.func 15),args:=#[Operand.tmp t0],argTypes:=#[23] },type:=u,pos:=ps,after:=ed,guard:=gd }).run prog w=.ok (.enter 15 #[z0]) w:=by(
 unfold execOp
 go_simp
 rw[← h0]
 simp[Act.eval])
theorem qim (a:Act) (w:World) (d t:Nat) (u:TypeId) (ps:String) (ed:Array Edge) (gd:Option (Nat × Bool)) (b o o':Nat) (ho:o+3=o') (h1:a.eval (.tmp t)=.pointer (some ⟨b,o,none⟩)) :
   (execOp a.eval { dst:=some d,op:=Op.fieldAddr 133 (.tmp t) 2,type:=u,pos:=ps,after:=ed,guard:=gd }).run prog w=.ok (.value (.pointer (some ⟨b,o',none⟩))) w:=by(
 subst ho
 unfold execOp
 simp only[h1]
 go_simp)
theorem qil (a:Act) (w:World) (d t:Nat) (u:TypeId) (ps:String) (ed:Array Edge) (gd:Option (Nat × Bool)) (b o o':Nat) (ho:o+4=o') (h1:a.eval (.tmp t)=.pointer (some ⟨b,o,none⟩)) :
   (execOp a.eval { dst:=some d,op:=Op.fieldAddr 133 (.tmp t) 3,type:=u,pos:=ps,after:=ed,guard:=gd }).run prog w=.ok (.value (.pointer (some ⟨b,o',none⟩))) w:=by(
 subst ho
 unfold execOp
 simp only[h1]
 go_simp)
theorem qik (a:Act) (w:World) (d t:Nat) (u:TypeId) (ps:String) (ed:Array Edge) (gd:Option (Nat × Bool)) (b o o':Nat) (ho:o+5=o') (h1:a.eval (.tmp t)=.pointer (some ⟨b,o,none⟩)) :
   (execOp a.eval { dst:=some d,op:=Op.fieldAddr 133 (.tmp t) 4,type:=u,pos:=ps,after:=ed,guard:=gd }).run prog w=.ok (.value (.pointer (some ⟨b,o',none⟩))) w:=by(
 subst ho
 unfold execOp
 simp only[h1]
 go_simp)
theorem qij (a:Act) (w:World) (d t:Nat) (u:TypeId) (ps:String) (ed:Array Edge) (gd:Option (Nat × Bool)) (b o o':Nat) (ho:o+6=o') (h1:a.eval (.tmp t)=.pointer (some ⟨b,o,none⟩)) :
   (execOp a.eval { dst:=some d,op:=Op.fieldAddr 133 (.tmp t) 5,type:=u,pos:=ps,after:=ed,guard:=gd }).run prog w=.ok (.value (.pointer (some ⟨b,o',none⟩))) w:=by(
 subst ho
 unfold execOp
 simp only[h1]
 go_simp)
theorem qii (a:Act) (w:World) (d t:Nat) (u:TypeId) (ps:String) (ed:Array Edge) (gd:Option (Nat × Bool)) (b o o':Nat) (ho:o+7=o') (h1:a.eval (.tmp t)=.pointer (some ⟨b,o,none⟩)) :
   (execOp a.eval { dst:=some d,op:=Op.fieldAddr 133 (.tmp t) 6,type:=u,pos:=ps,after:=ed,guard:=gd }).run prog w=.ok (.value (.pointer (some ⟨b,o',none⟩))) w:=by(
 subst ho
 unfold execOp
 simp only[h1]
 go_simp)
theorem qfd (a:Act) (w:World) (d t:Nat) (u:TypeId) (ps:String) (ed:Array Edge) (gd:Option (Nat × Bool)) (b o:Nat) (v:Value) (h1:a.eval (.tmp t)=.pointer (some ⟨b,o,none⟩)) (hc:w.cell? ⟨b,o,none⟩=some v) :
   (execOp a.eval { dst:=some d,op:=Op.load 9 (.tmp t),type:=u,pos:=ps,after:=ed,guard:=gd }).run prog w=.ok (.value v) w:=by(
 unfold execOp
 simp only[h1]
 go_simp)
theorem qfc (a:Act) (w:World) (d t0 t1 t2 t3 t4 t5 t6:Nat) (u:TypeId) (ps:String) (ed:Array Edge) (gd:Option (Nat × Bool)) (z0:Int) (q1:Option Addr) (z2:Int) (z3:Int) (z4:Int) (z5:Int) (z6:ByteArray) (h0:a.eval (.tmp t0)=.int .i64 z0) (h1:a.eval (.tmp t1)=.pointer q1) (h2:a.eval (.tmp t2)=.int .i64 z2) (h3:a.eval (.tmp t3)=.int .i64 z3) (h4:a.eval (.tmp t4)=.int .i64 z4) (h5:a.eval (.tmp t5)=.int .i64 z5) (h6:a.eval (.tmp t6)=.string z6) :
   (execOp a.eval { dst:=some d,op:=Op.build 135 #[(0,Operand.tmp t0),(1,Operand.tmp t1),(2,Operand.tmp t2),(3,Operand.tmp t3),(4,Operand.tmp t4),(5,Operand.tmp t5),(6,Operand.tmp t6)],type:=u,pos:=ps,after:=ed,guard:=gd }).run prog w=.ok (.value (.agg #[.int .i64 z0,.pointer q1,.int .i64 z2,.int .i64 z3,.int .i64 z4,.int .i64 z5,.string z6])) w:=by(
 unfold execOp
 simp only[List.map_toArray,List.map_cons,List.map_nil,h0,h1,h2,h3,h4,h5,h6]
 go_simp)
theorem qfb (a:Act) (w:World) (d t:Nat) (u:TypeId) (ps:String) (ed:Array Edge) (gd:Option (Nat × Bool)) (z0:Int) (q1:Option Addr) (z2:Int) (z3:Int) (z4:Int) (z5:Int) (z6:ByteArray) (h1:a.eval (.tmp t)=.agg #[.int .i64 z0,.pointer q1,.int .i64 z2,.int .i64 z3,.int .i64 z4,.int .i64 z5,.string z6]) :
   (execOp a.eval { dst:=some d,op:=Op.buildSlice 60 1 #[(0,Operand.tmp t)],type:=u,pos:=ps,after:=ed,guard:=gd }).run prog w=.ok (.value (.slice (some ⟨w.heap.size,0,none⟩) 1 1)) (w.alloc (.cells #[.int .i64 z0,.pointer q1,.int .i64 z2,.int .i64 z3,.int .i64 z4,.int .i64 z5,.string z6] 135)):=by(
 unfold execOp
 simp only[List.map_toArray,List.map_cons,List.map_nil,h1]
 go_simp)
theorem qfa (a:Act) (w:World) (d t1 t2:Nat) (ps:String) (ed:Array Edge) (gd:Option (Nat × Bool)) (v0 v1 v':Value) (w':World) (h1:a.eval (.tmp t1)=v0) (h2:a.eval (.tmp t2)=v1) (hr:(Builtin.append_ #[60,60] 60 #[v0,v1]).run prog w=.ok v' w') :
  (execOp a.eval { dst:=some d,op:=Op.call { callee:=Callee.builtin Builtin.append,args:=#[Operand.tmp t1,Operand.tmp t2],argTypes:=#[60,60] },type := 60,pos:=ps,after:=ed,guard:=gd }).run prog w=.ok (.value v') w':=by
 unfold execOp
 simp only[resolve,invoke,builtin,Sem.run_bind,Sem.run_pure,Result.andThen_ok,List.map_toArray,List.map_cons,List.map_nil,h1,h2,hr]
def qhl:Oper:=⟨some 16,.move (.tmp 3),60, "plays.go:20",#[],none⟩
def qhk:Oper:=⟨some 17,.fieldAddr 133 (.tmp 5) 0,0, "plays.go:20",#[],none⟩
def qhj:Oper:=⟨some 18,.load 3 (.tmp 17),3, "plays.go:20",#[⟨1,.data⟩],none⟩
def qhi:Oper:=⟨some 19,.fieldAddr 133 (.tmp 5) 1,0, "plays.go:20",#[],none⟩
def qhh:Oper:=⟨some 20,.load 23 (.tmp 19),23, "plays.go:20",#[⟨3,.data⟩],none⟩
def qhg:Oper:=⟨some 21,.call { callee:=.value (.func 15),args:=#[.tmp 20],argTypes:=#[23] },37, "plays.go:20",#[⟨4,.data⟩],none⟩
def qhf:Oper:=⟨some 22,.fieldAddr 133 (.tmp 5) 2,0, "plays.go:20",#[],none⟩
def qhe:Oper:=⟨some 23,.load 3 (.tmp 22),3, "plays.go:20",#[⟨6,.data⟩],none⟩
def qhd:Oper:=⟨some 24,.fieldAddr 133 (.tmp 5) 3,0, "plays.go:20",#[],none⟩
def qhc:Oper:=⟨some 25,.load 3 (.tmp 24),3, "plays.go:20",#[⟨8,.data⟩],none⟩
def qcc:Oper:=⟨some 26,.fieldAddr 133 (.tmp 5) 4,0, "plays.go:20",#[],none⟩
def qcb:Oper:=⟨some 27,.load 3 (.tmp 26),3, "plays.go:20",#[⟨10,.data⟩],none⟩
def qca:Oper:=⟨some 28,.fieldAddr 133 (.tmp 5) 5,0, "plays.go:20",#[],none⟩
def qbz:Oper:=⟨some 29,.load 3 (.tmp 28),3, "plays.go:20",#[⟨12,.data⟩],none⟩
def qby:Oper:=⟨some 30,.fieldAddr 133 (.tmp 5) 6,0, "plays.go:20",#[],none⟩
def qbx:Oper:=⟨some 31,.load 9 (.tmp 30),9, "plays.go:20",#[⟨14,.data⟩],none⟩
def qbw:Oper:=⟨some 32,.build 135 #[(0,.tmp 18),(1,.tmp 21),(2,.tmp 23),(3,.tmp 25),(4,.tmp 27),(5,.tmp 29),(6,.tmp 31)],135, "plays.go:20",#[⟨2,.data⟩,⟨5,.data⟩,⟨7,.data⟩,⟨9,.data⟩,⟨11,.data⟩,⟨13,.data⟩,⟨15,.data⟩],none⟩
def qbv:Oper:=⟨some 33,.buildSlice 60 1 #[(0,.tmp 32)],60, "plays.go:20",#[⟨16,.data⟩],none⟩
def qbu:Oper:=⟨some 34,.call { callee:=.builtin .append,args:=#[.tmp 16,.tmp 33],argTypes:=#[60,60] },60, "plays.go:20",#[⟨0,.data⟩,⟨17,.data⟩,⟨5,.chain⟩],none⟩
def qbt:Oper:=⟨some 3,.assign (.tmp 34),60, "plays.go:20",#[⟨18,.data⟩,⟨18,.chain⟩,⟨0,.phase⟩,⟨1,.phase⟩,⟨2,.phase⟩,⟨3,.phase⟩,⟨4,.phase⟩,⟨5,.phase⟩,⟨6,.phase⟩,⟨7,.phase⟩,⟨8,.phase⟩,⟨9,.phase⟩,⟨10,.phase⟩,⟨11,.phase⟩,⟨12,.phase⟩,⟨13,.phase⟩,⟨14,.phase⟩,⟨15,.phase⟩,⟨16,.phase⟩,⟨17,.phase⟩,⟨18,.phase⟩],none⟩
def ay:Array Oper:=#[qhl,qhk,qhj,qhi,qhh,qhg,qhf,qhe,qhd,qhc,qcc,qcb,qca,qbz,qby,qbx,qbw,qbv,qbu,qbt]
structure zdu (W0:World) (vo:Value) (g5:Nat) (kd:Int) (qu:Int) (qv:Int) (r1:Rat) (fq:Int) (li:Int) (ti:Int) (pq:Int) (tof:ByteArray) (zb:Nat) (gb:Nat × Nat) (va:Value) (b5:Bool) (b17:Bool) (w:World):Prop where
 mem:But [] W0 w
 f5:b5=true→zx w zb r1
 f17:b17=true→zrj W0.heap.size kd fq li ti pq tof r1 w gb
theorem zdu.but {W0:World} {vo:Value} {g5:Nat} {kd:Int} {qu:Int} {qv:Int} {r1:Rat} {fq:Int} {li:Int} {ti:Int} {pq:Int} {tof:ByteArray} {zb:Nat} {gb:Nat × Nat} {va:Value} {b5 b17:Bool} {w w':World} (h:zdu W0 vo g5 kd qu qv r1 fq li ti pq tof zb gb va b5 b17 w) (hb:But [] w w'):zdu W0 vo g5 kd qu qv r1 fq li ti pq tof zb gb va b5 b17 w' :=
 { mem:=h.mem.trans' hb,f5:=fun e=>(h.f5 e).but hb,f17:=fun e=>(h.f17 e).but hb }
theorem zdu.s5 {W0:World} {vo:Value} {g5:Nat} {kd:Int} {qu:Int} {qv:Int} {r1:Rat} {fq:Int} {li:Int} {ti:Int} {pq:Int} {tof:ByteArray} {zb:Nat} {gb:Nat × Nat} {va:Value} {b5 b17:Bool} {w:World} (h:zdu W0 vo g5 kd qu qv r1 fq li ti pq tof zb gb va b5 b17 w) (zb':Nat) (hf:zx w zb' r1):zdu W0 vo g5 kd qu qv r1 fq li ti pq tof zb' gb va true b17 w :=
 { mem:=h.mem,f5:=fun _=>hf,f17:=h.f17 }
theorem zdu.s17 {W0:World} {vo:Value} {g5:Nat} {kd:Int} {qu:Int} {qv:Int} {r1:Rat} {fq:Int} {li:Int} {ti:Int} {pq:Int} {tof:ByteArray} {zb:Nat} {gb:Nat × Nat} {va:Value} {b5 b17:Bool} {w:World} (h:zdu W0 vo g5 kd qu qv r1 fq li ti pq tof zb gb va b5 b17 w) (gb':Nat × Nat) (hf:zrj W0.heap.size kd fq li ti pq tof r1 w gb'):zdu W0 vo g5 kd qu qv r1 fq li ti pq tof zb gb' va b5 true w :=
 { mem:=h.mem,f5:=h.f5,f17:=fun _=>hf }
def zdt (i:Nat):Nat:=match i with
 | 0=>16
 | 1=>17
 | 2=>18
 | 3=>19
 | 4=>20
 | 5=>21
 | 6=>22
 | 7=>23
 | 8=>24
 | 9=>25
 | 10=>26
 | 11=>27
 | 12=>28
 | 13=>29
 | 14=>30
 | 15=>31
 | 16=>32
 | 17=>33
 | 18=>34
 | _=>3
def zkl (i:Nat):Bool:=match i with
 | _=>true
def qhb (vo:Value) (g5:Nat) (kd:Int) (qu:Int) (qv:Int) (r1:Rat) (fq:Int) (li:Int) (ti:Int) (pq:Int) (tof:ByteArray) (zb:Nat) (gb:Nat × Nat) (va:Value) (i:Nat):Value:=match i with
 | 0=>vo
 | 1=>.pointer (some ⟨g5,0,none⟩)
 | 2=>.int .i64 kd
 | 3=>.pointer (some ⟨g5,1,none⟩)
 | 4=>.agg #[.int .i64 qu,.int .i64 qv]
 | 5=>.pointer (some ⟨zb,0,none⟩)
 | 6=>.pointer (some ⟨g5,3,none⟩)
 | 7=>.int .i64 fq
 | 8=>.pointer (some ⟨g5,4,none⟩)
 | 9=>.int .i64 li
 | 10=>.pointer (some ⟨g5,5,none⟩)
 | 11=>.int .i64 ti
 | 12=>.pointer (some ⟨g5,6,none⟩)
 | 13=>.int .i64 pq
 | 14=>.pointer (some ⟨g5,7,none⟩)
 | 15=>.string tof
 | 16=>.agg #[.int .i64 kd,.pointer (some ⟨zb,0,none⟩),.int .i64 fq,.int .i64 li,.int .i64 ti,.int .i64 pq,.string tof]
 | 17=>.slice (some ⟨gb.1,0,none⟩) 1 1
 | 18=>va
 | _=>va
theorem zy:zcz ay [(2,1),(4,3),(5,4),(7,6),(9,8),(11,10),(13,12),(15,14),(16,2),(16,5),(16,7),(16,9),(16,11),(16,13),(16,15),(17,16),(18,0),(18,5),(18,17),(19,0),(19,1),(19,2),(19,3),(19,4),(19,5),(19,6),(19,7),(19,8),(19,9),(19,10),(19,11),(19,12),(19,13),(19,14),(19,15),(19,16),(19,17),(19,18)]=true:=by kernel_rfl
theorem zwy:∀ i j,i<20→j<20→zkl i=true→zkl j=true→zdt i=zdt j→i=j:=fun i j hi hj=>(by decide:∀ i,i<20→∀ j,j<20→zkl i=true→zkl j=true→zdt i=zdt j→i=j) i hi j hj
theorem zmc (id:Nat) (Q:Exit→Act→World→Prop) (base:Act) (W0:World) (vo:Value) (g5:Nat) (kd:Int) (qu:Int) (qv:Int) (r1:Rat) (fq:Int) (li:Int) (ti:Int) (pq:Int) (tof:ByteArray) (Post:Value→World→Prop) (hs:34<base.tmps.size) (e3:base.eval (.tmp 3)=vo) (e5:base.eval (.tmp 5)=.pointer (some ⟨g5,0,none⟩))
   (c0:W0.cell? ⟨g5,0,none⟩=some (.int .i64 kd)) (c3:W0.cell? ⟨g5,3,none⟩=some (.int .i64 fq)) (c4:W0.cell? ⟨g5,4,none⟩=some (.int .i64 li)) (c5:W0.cell? ⟨g5,5,none⟩=some (.int .i64 ti)) (c6:W0.cell? ⟨g5,6,none⟩=some (.int .i64 pq)) (c7:W0.cell? ⟨g5,7,none⟩=some (.string tof)) (c1:W0.cell? ⟨g5,1,none⟩=some (.int .i64 qu)) (c2:W0.cell? ⟨g5,2,none⟩=some (.int .i64 qv))
   (OF:∀ w,Calls prog 15 #[.agg #[.int .i64 qu,.int .i64 qv]] w fun e w'=>∃ zb,e=.returned (.pointer (some ⟨zb,0,none⟩))∧zx w' zb r1∧But [] w w')
   (AP:∀ w zb g,But [] W0 w→zx w zb r1→p9 W0.heap.size w g [.int .i64 kd,.pointer (some ⟨zb,0,none⟩),.int .i64 fq,.int .i64 li,.int .i64 ti,.int .i64 pq,.string tof]→∃ v' w',(Builtin.append_ #[60,60] 60 #[vo,.slice (some ⟨g,0,none⟩) 1 1]).run prog w=.ok v' w'∧Post v' w')
   (hQ:∀ (zb:Nat) (gb:Nat × Nat) (va:Value) w1,Post va w1→Q .normal (bi base [(16,vo),(17,.pointer (some ⟨g5,0,none⟩)),(18,.int .i64 kd),(19,.pointer (some ⟨g5,1,none⟩)),(20,.agg #[.int .i64 qu,.int .i64 qv]),(21,.pointer (some ⟨zb,0,none⟩)),(22,.pointer (some ⟨g5,3,none⟩)),(23,.int .i64 fq),(24,.pointer (some ⟨g5,4,none⟩)),(25,.int .i64 li),(26,.pointer (some ⟨g5,5,none⟩)),(27,.int .i64 ti),(28,.pointer (some ⟨g5,6,none⟩)),(29,.int .i64 pq),(30,.pointer (some ⟨g5,7,none⟩)),(31,.string tof),(32,.agg #[.int .i64 kd,.pointer (some ⟨zb,0,none⟩),.int .i64 fq,.int .i64 li,.int .i64 ti,.int .i64 pq,.string tof]),(33,.slice (some ⟨gb.1,0,none⟩) 1 1),(34,va),(3,va)]) w1) :
   (Code.region id ay true).wp prog Q base W0:=by(
 have hT:∀ i,i<20→zkl i=true→zdt i<base.tmps.size:=fun i hi _=>by
  have h:zdt i≤34:=by revert i;decide
  omega
 refine zka (by kernel_rfl) (di (by kernel_rfl)) (zvf (by kernel_rfl)) (fun (N:(Nat) × (Nat × Nat) × (Value)) d w=>∃ w1,zdu W0 vo g5 kd qu qv r1 fq li ti pq tof N.1 N.2.1 N.2.2 (d 5) (d 17) w1∧(d 18=false→w=w1)∧(d 18=true→Post N.2.2 w)) (fun N=>qhb vo g5 kd qu qv r1 fq li ti pq tof N.1 N.2.1 N.2.2) zdt zkl 20 (by kernel_rfl) zwy hT (0,(0,0),undef) ⟨_,{ mem:=(But.refl _ _).drew,f5:=fun h=>by simp at h,f17:=fun h=>by simp at h },fun _=>rfl,fun h=>by simp at h⟩ ?_ ?_
 ·(
 intro N d i o a w K hi ho hdi hcl hH he hdep hK
 have hD:=qdx zy ho (fun j=>d j=true∧(zkl j=true→a.eval (.tmp (zdt j))=qhb vo g5 kd qu qv r1 fq li ti pq tof N.1 N.2.1 N.2.2 j)) hdep
 have e5':=(he 5 (fun j hj _ _=>(by decide:∀ j,j<20→(5:Nat)≠zdt j) j hj)).trans e5
 have:i=0∨i=1∨i=2∨i=3∨i=4∨i=5∨i=6∨i=7∨i=8∨i=9∨i=10∨i=11∨i=12∨i=13∨i=14∨i=15∨i=16∨i=17∨i=18∨i=19:=by omega
 rcases this with rfl|rfl|rfl|rfl|rfl|rfl|rfl|rfl|rfl|rfl|rfl|rfl|rfl|rfl|rfl|rfl|rfl|rfl|rfl|rfl
 ·(
 obtain rfl:=so (show ay[0]? =some qhl from rfl) ho
 have e3':=(he 3 (fun j hj _ hdj e=>by
  by_cases hj2:j=19
  ·subst hj2;exact absurd ((hcl.not zy (i:=19) (j:=0) (by simp) hdi).symm.trans hdj) (by simp)
  ·exact absurd e ((by decide:∀ j,j<20→j≠19→(3:Nat)≠zdt j) j hj hj2))).trans e3
 exact al (br a w _ _ _ _ _ _ _ e3') (hK N _ _ (fun _=>rfl) (fun _ _ _ _=>rfl) hH))
 ·obtain rfl:=so (show ay[1]? =some qhk from rfl) ho
  exact al (qiq a w _ _ _ _ _ _ g5 (0) (0) rfl e5') (hK N _ _ (fun _=>rfl) (fun _ _ _ _=>rfl) hH)
 ·(
 obtain rfl:=so (show ay[2]? =some qhj from rfl) ho
 have hs0:d 18=false:=(hcl.not zy (i:=18) (j:=17) (by simp) (hcl.not zy (i:=17) (j:=16) (by simp) (hcl.not zy (i:=16) (j:=2) (by simp) hdi)))
 obtain⟨w1,hP,h1,h2⟩:=hH
 obtain rfl:=h1 hs0
 have hW:=hP.mem
 exact al (zjw a w _ _ _ _ _ _ g5 (0) _ ((hD 1 (by simp)).2 rfl) (hW.ag c0 (by simp))) (hK N _ _ (fun _=>rfl) (fun _ _ _ _=>rfl) ⟨_,hP,h1,h2⟩))
 ·obtain rfl:=so (show ay[3]? =some qhi from rfl) ho
  exact al (qip a w _ _ _ _ _ _ g5 (0) (1) rfl e5') (hK N _ _ (fun _=>rfl) (fun _ _ _ _=>rfl) hH)
 ·(
 obtain rfl:=so (show ay[4]? =some qhh from rfl) ho
 have hs0:d 18=false:=(hcl.not zy (i:=18) (j:=5) (by simp) (hcl.not zy (i:=5) (j:=4) (by simp) hdi))
 obtain⟨w1,hP,h1,h2⟩:=hH
 obtain rfl:=h1 hs0
 have hW:=hP.mem
 exact al (qio a w _ _ _ _ _ _ g5 (1) _ _ ((hD 3 (by simp)).2 rfl) (hW.ag c1 (by simp)) (hW.ag c2 (by simp))) (hK N _ _ (fun _=>rfl) (fun _ _ _ _=>rfl) ⟨_,hP,h1,h2⟩))
 ·(
 obtain rfl:=so (show ay[5]? =some qhg from rfl) ho
 have hs0:d 18=false:=(hcl.not zy (i:=18) (j:=5) (by simp) hdi)
 obtain⟨w1,hP,h1,h2⟩:=hH
 obtain rfl:=h1 hs0
 have hW:=hP.mem
 exact aw (qin a w _ _ _ _ _ _ _ ((hD 4 (by simp)).2 rfl)) (R:=fun w' u=>∃ v,u=.pointer (some ⟨v,0,none⟩)∧(zx w' v r1)∧But [] w w') ((OF w).mono fun e w' ⟨v,he,hf,hb⟩=>⟨_,he,v,rfl,hf,hb⟩) (fun u w' ⟨v,hu,hf,hb⟩=>hK (v,N.2.1,N.2.2) _ _ (fun _=>hu) (fun j hj _ hdj=>by
  have:j=0∨j=1∨j=2∨j=3∨j=4∨j=5∨j=6∨j=7∨j=8∨j=9∨j=10∨j=11∨j=12∨j=13∨j=14∨j=15∨j=16∨j=17∨j=18∨j=19:=by omega
  rcases this with rfl|rfl|rfl|rfl|rfl|rfl|rfl|rfl|rfl|rfl|rfl|rfl|rfl|rfl|rfl|rfl|rfl|rfl|rfl|rfl <;> first|rfl | exact absurd (hdi.symm.trans hdj) (by simp) | exact absurd ((hcl.not zy (i:=16) (j:=5) (by simp) hdi).symm.trans hdj) (by simp)) ⟨_,((hP.but hb).s5 v hf),fun _=>rfl,fun h=>absurd (hs0.symm.trans h) (by simp)⟩))
 ·obtain rfl:=so (show ay[6]? =some qhf from rfl) ho
  exact al (qim a w _ _ _ _ _ _ g5 (0) (3) rfl e5') (hK N _ _ (fun _=>rfl) (fun _ _ _ _=>rfl) hH)
 ·(
 obtain rfl:=so (show ay[7]? =some qhe from rfl) ho
 have hs0:d 18=false:=(hcl.not zy (i:=18) (j:=17) (by simp) (hcl.not zy (i:=17) (j:=16) (by simp) (hcl.not zy (i:=16) (j:=7) (by simp) hdi)))
 obtain⟨w1,hP,h1,h2⟩:=hH
 obtain rfl:=h1 hs0
 have hW:=hP.mem
 exact al (zjw a w _ _ _ _ _ _ g5 (3) _ ((hD 6 (by simp)).2 rfl) (hW.ag c3 (by simp))) (hK N _ _ (fun _=>rfl) (fun _ _ _ _=>rfl) ⟨_,hP,h1,h2⟩))
 ·obtain rfl:=so (show ay[8]? =some qhd from rfl) ho
  exact al (qil a w _ _ _ _ _ _ g5 (0) (4) rfl e5') (hK N _ _ (fun _=>rfl) (fun _ _ _ _=>rfl) hH)
 ·(
 obtain rfl:=so (show ay[9]? =some qhc from rfl) ho
 have hs0:d 18=false:=(hcl.not zy (i:=18) (j:=17) (by simp) (hcl.not zy (i:=17) (j:=16) (by simp) (hcl.not zy (i:=16) (j:=9) (by simp) hdi)))
 obtain⟨w1,hP,h1,h2⟩:=hH
 obtain rfl:=h1 hs0
 have hW:=hP.mem
 exact al (zjw a w _ _ _ _ _ _ g5 (4) _ ((hD 8 (by simp)).2 rfl) (hW.ag c4 (by simp))) (hK N _ _ (fun _=>rfl) (fun _ _ _ _=>rfl) ⟨_,hP,h1,h2⟩))
 ·obtain rfl:=so (show ay[10]? =some qcc from rfl) ho
  exact al (qik a w _ _ _ _ _ _ g5 (0) (5) rfl e5') (hK N _ _ (fun _=>rfl) (fun _ _ _ _=>rfl) hH)
 ·(
 obtain rfl:=so (show ay[11]? =some qcb from rfl) ho
 have hs0:d 18=false:=(hcl.not zy (i:=18) (j:=17) (by simp) (hcl.not zy (i:=17) (j:=16) (by simp) (hcl.not zy (i:=16) (j:=11) (by simp) hdi)))
 obtain⟨w1,hP,h1,h2⟩:=hH
 obtain rfl:=h1 hs0
 have hW:=hP.mem
 exact al (zjw a w _ _ _ _ _ _ g5 (5) _ ((hD 10 (by simp)).2 rfl) (hW.ag c5 (by simp))) (hK N _ _ (fun _=>rfl) (fun _ _ _ _=>rfl) ⟨_,hP,h1,h2⟩))
 ·obtain rfl:=so (show ay[12]? =some qca from rfl) ho
  exact al (qij a w _ _ _ _ _ _ g5 (0) (6) rfl e5') (hK N _ _ (fun _=>rfl) (fun _ _ _ _=>rfl) hH)
 ·(
 obtain rfl:=so (show ay[13]? =some qbz from rfl) ho
 have hs0:d 18=false:=(hcl.not zy (i:=18) (j:=17) (by simp) (hcl.not zy (i:=17) (j:=16) (by simp) (hcl.not zy (i:=16) (j:=13) (by simp) hdi)))
 obtain⟨w1,hP,h1,h2⟩:=hH
 obtain rfl:=h1 hs0
 have hW:=hP.mem
 exact al (zjw a w _ _ _ _ _ _ g5 (6) _ ((hD 12 (by simp)).2 rfl) (hW.ag c6 (by simp))) (hK N _ _ (fun _=>rfl) (fun _ _ _ _=>rfl) ⟨_,hP,h1,h2⟩))
 ·obtain rfl:=so (show ay[14]? =some qby from rfl) ho
  exact al (qii a w _ _ _ _ _ _ g5 (0) (7) rfl e5') (hK N _ _ (fun _=>rfl) (fun _ _ _ _=>rfl) hH)
 ·(
 obtain rfl:=so (show ay[15]? =some qbx from rfl) ho
 have hs0:d 18=false:=(hcl.not zy (i:=18) (j:=17) (by simp) (hcl.not zy (i:=17) (j:=16) (by simp) (hcl.not zy (i:=16) (j:=15) (by simp) hdi)))
 obtain⟨w1,hP,h1,h2⟩:=hH
 obtain rfl:=h1 hs0
 have hW:=hP.mem
 exact al (qfd a w _ _ _ _ _ _ g5 (7) _ ((hD 14 (by simp)).2 rfl) (hW.ag c7 (by simp))) (hK N _ _ (fun _=>rfl) (fun _ _ _ _=>rfl) ⟨_,hP,h1,h2⟩))
 ·obtain rfl:=so (show ay[16]? =some qbw from rfl) ho
  exact al (qfc a w _ _ _ _ _ _ _ _ _ _ _ _ _ _ _ _ _ _ _ ((hD 2 (by simp)).2 rfl) ((hD 5 (by simp)).2 rfl) ((hD 7 (by simp)).2 rfl) ((hD 9 (by simp)).2 rfl) ((hD 11 (by simp)).2 rfl) ((hD 13 (by simp)).2 rfl) ((hD 15 (by simp)).2 rfl)) (hK N _ _ (fun _=>rfl) (fun _ _ _ _=>rfl) hH)
 ·(
 obtain rfl:=so (show ay[17]? =some qbv from rfl) ho
 have hs0:d 18=false:=(hcl.not zy (i:=18) (j:=17) (by simp) hdi)
 obtain⟨w1,hP,h1,h2⟩:=hH
 obtain rfl:=h1 hs0
 have hW:=hP.mem
 have t5:d 5=true:=(hcl.dep zy (i:=16) (j:=5) (by simp) (hD 16 (by simp)).1)
 have bA:But [] w (w.alloc (.cells #[.int .i64 kd,.pointer (some ⟨N.1,0,none⟩),.int .i64 fq,.int .i64 li,.int .i64 ti,.int .i64 pq,.string tof] 135)):=(But.refl _ _).alloc _
 have hsz:=hW.size
 exact al (qfb a w _ _ _ _ _ _ _ _ _ _ _ _ _ ((hD 16 (by simp)).2 rfl)) (hK (N.1,(w.heap.size,N.1),N.2.2) _ _ (fun _=>rfl) (fun j hj _ hdj=>by
  have:j=0∨j=1∨j=2∨j=3∨j=4∨j=5∨j=6∨j=7∨j=8∨j=9∨j=10∨j=11∨j=12∨j=13∨j=14∨j=15∨j=16∨j=17∨j=18∨j=19:=by omega
  rcases this with rfl|rfl|rfl|rfl|rfl|rfl|rfl|rfl|rfl|rfl|rfl|rfl|rfl|rfl|rfl|rfl|rfl|rfl|rfl|rfl <;> first|rfl | exact absurd (hdi.symm.trans hdj) (by simp)) ⟨_,((hP.but bA).s17 (w.heap.size,N.1) (⟨p9.made _ w _ _ hsz,(hP.f5 t5).but bA⟩)),fun _=>rfl,fun h=>absurd (hs0.symm.trans h) (by simp)⟩))
 ·(
 obtain rfl:=so (show ay[18]? =some qbu from rfl) ho
 obtain⟨w1,hP,h1,h2⟩:=hH
 obtain rfl:=h1 hdi
 have hW:=hP.mem
 have t5:d 5=true:=(hD 5 (by simp)).1
 have t17:d 17=true:=(hD 17 (by simp)).1
 obtain⟨v',w',hr,hpost⟩:=AP w N.2.1.2 N.2.1.1 hW (hP.f17 t17).num (hP.f17 t17).box
 exact al (qfa a w _ _ _ _ _ _ _ _ v' w' ((hD 0 (by simp)).2 rfl) ((hD 17 (by simp)).2 rfl) hr) (hK (N.1,N.2.1,v') _ _ (fun _=>rfl) (fun j hj _ hdj=>by
  have:j=0∨j=1∨j=2∨j=3∨j=4∨j=5∨j=6∨j=7∨j=8∨j=9∨j=10∨j=11∨j=12∨j=13∨j=14∨j=15∨j=16∨j=17∨j=18∨j=19:=by omega
  rcases this with rfl|rfl|rfl|rfl|rfl|rfl|rfl|rfl|rfl|rfl|rfl|rfl|rfl|rfl|rfl|rfl|rfl|rfl|rfl|rfl <;> first|rfl | exact absurd (hdi.symm.trans hdj) (by simp) | exact absurd ((hcl.not zy (i:=19) (j:=18) (by simp) hdi).symm.trans hdj) (by simp)) ⟨w,{ mem:=hP.mem,f5:=hP.f5,f17:=hP.f17 },fun h=>absurd h (by rw[fw];simp),fun _=>hpost⟩))
 ·obtain rfl:=so (show ay[19]? =some qbt from rfl) ho
  exact al (zat a w _ _ _ _ _ _ _ ((hD 18 (by simp)).2 rfl)) (hK N _ _ (fun _=>rfl) (fun _ _ _ _=>rfl) hH))
 ·intro N d w hd hH
  obtain⟨w1,hP,h1,h2⟩:=hH
  exact hQ N.1 N.2.1 N.2.2 w (h2 (hd 18 (by omega))))
theorem znx (q:Option Addr) (n c:Nat) (ps:List PL) (w:World) (hv:zid w (.slice q n c) ps) (hn:n≤60) (hf:∀ p ∈ ps,Fits (p.qu,p.qv)) :
   Calls prog 19 #[.slice q n c] w fun e w'=>∃ v us,e=.returned v∧zdq w' w.heap.size v (ps.map ug) us∧But [] w w':=by(
 have hnl:n=ps.length:=by
  obtain⟨a,cap,e,-⟩:=hv
  simp only[Value.slice.injEq] at e
  exact e.2.1
 have HV:=af hv
 have HF:=af hf
 have HNL:=af hnl
 clear hv hf hnl
 go_enter func19,ntmps19
 go_wp2
 go_loopw [3,4] (fun v i wr=>∃ k:Nat,k≤n∧i=.int .i64 (k:Int)∧Hid (∃ us,zdq wr w.heap.size v ((ps.take k).map ug) us)∧Hid (But [] w wr)) (fun _ i _=>n-(intOf i).toNat)
 case atStart=>exact⟨0,Nat.zero_le _,rfl,⟨[],zdq.empty _ _⟩,But.refl _ _⟩
 case round =>(
 obtain⟨k,hk,rfl,HR,HB⟩:=hrel
 rename World=>wr
 by_cases hlt:k<n
 ·(
 have hkl:k<ps.length:=by have:=ae HNL;omega
 have hge:ps[k]? = some ps[k]:=List.getElem?_eq_getElem hkl
 have hmem:ps[k] ∈ ps:=List.getElem_mem hkl
 obtain⟨a',cap',ea,hca,hc⟩:=(ae HV).but (ae HB)
 simp only[Value.slice.injEq] at ea
 obtain⟨rfl,-,rfl⟩:=ea
 have hcn:n≤c:=by have:=ae HNL;omega
 obtain⟨b,off,rfl,c0,c1,c2,c3,c4,c5,c6,c7⟩:=hc k _ hge
 have FQ:=ae HF _ hmem
 have htk:(ps.take (k+1)).map ug=(ps.take k).map ug++[ug ps[k]]:=by rw[List.take_add_one,hge,List.map_append];rfl
 have hlen:((ps.take k).map ug).length=k:=by simp;omega
 obtain⟨p,hp⟩:∃ p,p=ps[k]:=⟨_,rfl⟩
 rw[← hp] at c0 c1 c2 c3 c4 c5 c6 c7 htk FQ
 have HTK:=af htk
 have HLEN:=af hlen
 have HOF:=af (fun W=>qjb p.qu p.qv (qf (p.qu,p.qv)) W FQ.1 FQ.2.1 FQ.2.2.1 FQ.2.2.2 (zzg _ FQ))
 have bB:But [] wr (wr.alloc (.cells #[.int .i64 p.kd,.int .i64 p.qu,.int .i64 p.qv,.int .i64 p.fr,.int .i64 p.li,.int .i64 p.ti,.int .i64 p.pr,.string p.toB] 133)):=(But.refl [] wr).alloc _
 have D5:=af (p9.made wr.heap.size wr [.int .i64 p.kd,.int .i64 p.qu,.int .i64 p.qv,.int .i64 p.fr,.int .i64 p.li,.int .i64 p.ti,.int .i64 p.pr,.string p.toB] 133 (Nat.le_refl _))
 obtain⟨us,hus⟩:=ae HR
 have HR1:=af (hus.but bB)
 have HB1:=af ((ae HB).trans' bB)
 clear hge hmem hc FQ hp htk hlen bB HR HB hca hus
 go_wp2
 generalize wr.alloc (.cells #[.int .i64 p.kd,.int .i64 p.qu,.int .i64 p.qv,.int .i64 p.fr,.int .i64 p.li,.int .i64 p.ti,.int .i64 p.pr,.string p.toB] 133)=V1 at *
 generalize wr.heap.size=g5 at D5 ⊢
 have d5:=ae D5
 refine zmc 6 _ _ V1 u3 g5 p.kd p.qu p.qv (qf (p.qu,p.qv)) p.fr p.li p.ti p.pr p.toB (fun v' w'=>(∃ us,zdq w' w.heap.size v' ((ps.take k).map ug++[ug p]) us)∧But [] w w') (by simp) (by simp[Act.eval]) (by simp[Act.eval]) (d5.cells 0 _ rfl) (d5.cells 3 _ rfl) (d5.cells 4 _ rfl) (d5.cells 5 _ rfl) (d5.cells 6 _ rfl) (d5.cells 7 _ rfl) (d5.cells 1 _ rfl) (d5.cells 2 _ rfl) (ae HOF) (fun W zb g hb hr hN=>by
  have hbw:=(ae HB1).trans' hb
  obtain⟨v',w',hr2,h1,h2⟩:=zrg W w _ _ us w.heap.size ((ae HR1).but hb) g zb (ug p) (fun r u hu=>hN.cells r u hu) hr (by have:=ae HLEN;omega) hbw (Nat.le_refl _) hbw.size
  exact⟨v',w',hr2,⟨_,h1⟩,h2⟩) ?_
 intro zb gb va w1 hP
 simp only[bi,List.foldl_cons,List.foldl_nil,Act.put,List.setIfInBounds_toArray,List.set_cons_zero,List.set_cons_succ]
 rw[← ae HTK] at hP
 have HP1:=af hP.1
 have HP2:=af hP.2
 clear hP d5 D5 HR1 HB1 c0 c1 c2 c3 c4 c5 c6 c7
 go_wp2
 exact⟨⟨k+1,by omega,by go_num,ae HP1,ae HP2⟩,by simp[intOf];omega⟩)
 ·(
 obtain rfl:k=n:=by omega
 have hall:(ps.take k).map ug=ps.map ug:=by rw[List.take_of_length_le (by have:=ae HNL;omega)]
 rw[hall] at HR
 clear hall
 obtain⟨us,hus⟩:=ae HR
 have HUS:=af hus
 clear hus HR
 go_wp2
 exact bodyPost_ret (v:=u3) (by simp[results,results19,go_sem]) rfl ⟨u3,us,rfl,ae HUS,ae HB⟩)))
end Go.Proofs.YtjlfllhedceigaaGreatDoor
