/- Rows of a call's own stay, and what is k -/
import Derived.Test.YtpmjeclpkahkmaaGreatDoorVF8
namespace Go.Proofs.YtpmjeclpkahkmaaGreatDoor
open Go.Proofs.Tryz
open Go.RowKit
set_option maxHeartbeats 8000000
set_option maxRecDepth 100000
set_option linter.unusedVariables false
theorem ownsRow_form {w:World} {base:Nat} {e:TypeId} {size:Nat} {v:Value} {n:Nat} {xs:List Value} (h:w.ownsRow base e size v n xs):∃ a c,v=.slice a n c:=by(
rcases h.2 with ⟨rfl,h0⟩|⟨g,cap,cur,rfl,-⟩
·exact⟨none,0,by rw[h0]⟩
·exact⟨_,_,rfl⟩)
theorem ou {w0 w w':World} {base:Nat} {e:TypeId} {size:Nat} {v:Value} {n:Nat} {xs:List Value} (h:But [] w0 w) (ho:w.ownsRow base e size v n xs) (hb:w0.heap.size≤base) (hg:w.grownBy w' v.ownBlock):But [] w0 w' :=
 ⟨hg.os.trans h.os,hg.tape.trans h.tape,hg.output.trans h.output,Nat.le_trans h.size hg.size,fun k hk _=>by
  rw[hg.block k (Nat.lt_of_lt_of_le hk h.size) (fun e=>by have:=(ho.lt k e.symm).1;omega)]
  exact h.block k hk (by simp)⟩
theorem zfq {w w':World} {base:Nat} {e:TypeId} {size:Nat} {v:Value} {n:Nat} {xs:List Value} (h:w.ownsRow base e size v n xs) (hb:But [] w w'):w'.ownsRow base e size v n xs :=
 h.kept (row:=none) ⟨hb.os,hb.tape,hb.output,hb.size,fun k hk _=>hb.block k hk (by simp)⟩ (by
  by_cases h0:v.ownBlock=none
  ·exact .inl h0
  ·exact .inr h0)
theorem zkb {a b:Nat} (h:a≤b):(wd 4294967296 a).length≤(wd 4294967296 b).length:=aj (by omega) _ _ (Nat.lt_of_le_of_lt h (ak (by omega) b _ (Nat.le_refl _)))
theorem qfw (a b n:Nat) (ha:(wd 4294967296 a).length≤n) (hb:(wd 4294967296 b).length≤n):(wd 4294967296 (a+b)).length≤n+1:=by(
refine aj (by omega) _ _ ?_
have h1:=ak (B:=4294967296) (by omega) a n ha
have h2:=ak (B:=4294967296) (by omega) b n hb
rw[Nat.pow_succ]
omega)
theorem zer (x y:Int) (n:Nat) (hx:(wd 4294967296 x.natAbs).length≤n) (hy:(wd 4294967296 y.natAbs).length≤n):(wd 4294967296 (x+y).natAbs).length≤n+1 :=
 Nat.le_trans (zkb (Int.natAbs_add_le x y)) (qfw _ _ n hx hy)
theorem zro (f:Rat) (p q:Int) (n:Nat) (hq:q≠0) (h:f.num*q=p*(f.den:Int)) (hp:(wd 4294967296 p.natAbs).length≤n) (hl:(wd 4294967296 q.natAbs).length≤n):jc f n:=by(
obtain⟨e1,e2⟩:=zia p q hq f h
constructor
·(
have h1:f.num.natAbs=p.natAbs/Nat.gcd p.natAbs q.natAbs:=by
 rw[e1,ztb]
 split <;> simp
rw[h1]
exact Nat.le_trans (zkb (Nat.div_le_self _ _)) hp)
·(
have h2:f.den=q.natAbs/Nat.gcd p.natAbs q.natAbs:=by
 have:=e2
 rw[zff] at this
 omega
rw[h2]
exact Nat.le_trans (zkb (Nat.div_le_self _ _)) hl))
theorem jc.mono {f:Rat} {m n:Nat} (h:jc f m) (hmn:m≤n):jc f n:=⟨Nat.le_trans h.1 hmn,Nat.le_trans h.2 hmn⟩
theorem zhk (f g:Rat):(f+g).num*((f.den:Int)*(g.den:Int))=(f.num*(g.den:Int)+g.num*(f.den:Int))*((f+g).den:Int):=by
 have h:=zqf f g
 grind
theorem ji (x y:Int) (m n:Nat) (hx:(wd 4294967296 x.natAbs).length≤m) (hy:(wd 4294967296 y.natAbs).length≤n):(wd 4294967296 (x*y).natAbs).length≤m+n:=by(
rw[Int.natAbs_mul]
have:=znm x.natAbs y.natAbs
omega)
theorem jc.mul {f g:Rat} {m n:Nat} (hf:jc f m) (hg:jc g n):jc (f*g) (m+n):=by(
have hfd:0<f.den:=Nat.pos_of_ne_zero f.den_nz
have hgd:0<g.den:=Nat.pos_of_ne_zero g.den_nz
have hc:=zcf f g
rw[Int.natCast_mul] at hc
exact zro _ _ _ _ (Int.mul_ne_zero (by omega) (by omega)) hc (ji _ _ _ _ hf.1 hg.1) (ji _ _ _ _ (by rw[Int.natAbs_natCast];exact hf.2) (by rw[Int.natAbs_natCast];exact hg.2)))
theorem jc.add {f g:Rat} {m n:Nat} (hf:jc f m) (hg:jc g n):jc (f+g) (m+n+1):=by(
have hfd:0<f.den:=Nat.pos_of_ne_zero f.den_nz
have hgd:0<g.den:=Nat.pos_of_ne_zero g.den_nz
have d1:(wd 4294967296 ((f.den:Nat):Int).natAbs).length≤m:=by rw[Int.natAbs_natCast];exact hf.2
have d2:(wd 4294967296 ((g.den:Nat):Int).natAbs).length≤n:=by rw[Int.natAbs_natCast];exact hg.2
refine zro _ _ _ _ (Int.mul_ne_zero (by omega) (by omega)) (zhk f g) (zer _ _ _ (ji _ _ _ _ hf.1 d2) ?_) (Nat.le_succ_of_le (ji _ _ _ _ d1 d2))
rw[Nat.add_comm m n]
exact ji _ _ _ _ hg.1 d1)
theorem zwh (xb yb:Nat) (f g:Rat) (w:World) (hx:zo w xb f) (hy:zo w yb g) (lf:jc f 2000000) (lg:jc g 2000000) :
  Calls prog 58 #[.pointer (some ⟨xb,0,none⟩),.pointer (some ⟨yb,0,none⟩)] w fun e w'=>∃ zb,e=.returned (.pointer (some ⟨zb,0,none⟩))∧But [] w w'∧zo w' zb (f+g)∧w.heap.size≤zb:=by(
have hfd:0<f.den:=Nat.pos_of_ne_zero f.den_nz
have hgd:0<g.den:=Nat.pos_of_ne_zero g.den_nz
have hQ0:(f.den:Int)*(g.den:Int)≠0:=Int.mul_ne_zero (by omega) (by omega)
obtain⟨e1,e2⟩:=zia (f.num*(g.den:Int)+g.num*(f.den:Int)) ((f.den:Int)*(g.den:Int)) hQ0 (f+g) (zhk f g)
obtain⟨W0,hW0⟩:∃ W0,W0=w.alloc (.cells #[.bool false,.slice none 0 0,.bool false,.slice none 0 0] 141):=⟨_,rfl⟩
have hs:=zfo w 141
have hbw:But [] w W0:=by rw[hW0];exact (But.refl _ _).alloc _
rw[← hW0] at hs
obtain⟨lf1,lf2⟩:=lf
obtain⟨lg1,lg2⟩:=lg
have d1:(wd 4294967296 ((f.den:Nat):Int).natAbs).length≤2000000:=by rw[Int.natAbs_natCast];exact lf2
have d2:(wd 4294967296 ((g.den:Nat):Int).natAbs).length≤2000000:=by rw[Int.natAbs_natCast];exact lg2
have p1:=ji f.num (g.den:Int) _ _ lf1 d2
have p2:=ji g.num (f.den:Int) _ _ lg1 d1
have p3:=ji (f.den:Int) (g.den:Int) _ _ d1 d2
have p4:=zer _ _ _ p1 p2
have MU:=af (zte w.heap.size xb yb f.num g.num f.den g.den W0 hs.1 hs.2 (qd.but hx hbw) (qd.but hy hbw) hfd hgd (by omega) (by omega) (by omega) (by omega) _ _ _ _ rfl rfl rfl rfl (by omega) (by omega) (by omega) (by omega) hQ0 (f+g).num ((f+g).den:Int) e1 e2)
have HW0:=af hW0
have HBW:=af hbw
clear hW0 hbw hs e1 e2 hQ0 p1 p2 p3 p4 d1 d2 lf1 lf2 lg1 lg2 hx hy hfd hgd
go_enter func58,ntmps58
go_wp2_with fail
rw[← ae HW0]
refine (ae MU).mono ?_
rintro e w1 ⟨rfl,h1,h2⟩
have FIN:=af (And.intro ((ae HBW).trans h1 (by simp)) h2)
clear h1 h2 MU
go_wp2
go_ret
exact⟨w.heap.size,rfl,(ae FIN).1,(ae FIN).2,Nat.le_refl _⟩)
def qhu (u:Value):Prop:=(∀ s,u≠.bool s)∧∀ n:Int,u≠.int .u32 n
theorem ze.zpp {w w':World} {b o g:Nat} {z:Int} {u:Value} (h:ze w b o z) (hb:But [g] w w') (hn:b≠g) (hc:w.cell? ⟨g,0,none⟩=some u) (hu:qhu u):ze w' b o z:=by
 obtain⟨h0,v,h1,h2⟩:=h
 exact⟨hb.ag h0 (by simpa using hn),v,hb.ag h1 (by simpa using hn),h2.over hb hc (fun n e=>hu.2 n e)⟩
theorem zo.zpp {w w':World} {b g:Nat} {f:Rat} {u:Value} (h:zo w b f) (hb:But [g] w w') (hc:w.cell? ⟨g,0,none⟩=some u) (hu:qhu u):zo w' b f:=by(
have hn:b≠g:=fun e=>by
 subst e
 have h1:=h.up.1
 rw[hc] at h1
 exact hu.1 _ (Option.some.inj h1)
exact⟨h.up.zpp hb hn hc hu,h.low.zpp hb hn hc hu,h.sa.but hb (by simpa using hn),h.sb.but hb (by simpa using hn)⟩)
theorem zjw (q:Option Addr):qhu (.pointer q):=⟨fun s e=>by simp at e,fun n e=>by simp at e⟩
def zhc (w:World) (v:Value) (f:Rat):Prop:=∃ g,v=.pointer (some ⟨g,0,none⟩)∧zo w g f
theorem zhc.but {w w':World} {v:Value} {f:Rat} (h:zhc w v f) (hb:But [] w w'):zhc w' v f:=h.elim fun g ⟨e,h⟩=>⟨g,e,h.but hb⟩
def za (w:World) (v:Value) (fs:List Rat):Prop:=∃ a cap,v=.slice a fs.length cap∧fs.length≤cap∧∀ (i:Nat) (f:Rat),fs[i]? = some f→∃ b off u,a=some ⟨b,off,none⟩∧w.cell? ⟨b,off+i,none⟩=some u∧zhc w u f
theorem za.but {w w':World} {v:Value} {fs:List Rat} (h:za w v fs) (hb:But [] w w'):za w' v fs:=by(
obtain⟨a,cap,e,h1,h2⟩:=h
refine⟨a,cap,e,h1,fun i f hi=>?_⟩
obtain⟨b,off,u,h3,h4,h5⟩:=h2 i f hi
exact⟨b,off,u,h3,hb.ag h4 (by simp),h5.but hb⟩)
theorem za.open {w:World} {v:Value} {fs:List Rat} (h:za w v fs):∃ a cap,v=.slice a fs.length cap∧fs.length≤cap:=by
 obtain⟨a,cap,e,h1,-⟩:=h
 exact⟨a,cap,e,h1⟩
theorem za.at {w:World} {a:Option Addr} {n cap:Nat} {fs:List Rat} (h:za w (.slice a n cap) fs) (i:Nat) (hi:i<n):n=fs.length∧∃ b off g f,a=some ⟨b,off,none⟩∧w.cell? ⟨b,off+i,none⟩=some (.pointer (some ⟨g,0,none⟩))∧fs[i]? = some f∧zo w g f:=by(
obtain⟨a',cap',e,h1,h2⟩:=h
simp only[Value.slice.injEq] at e
obtain⟨rfl,rfl,rfl⟩:=e
obtain⟨b,off,u,h3,h4,g,rfl,h5⟩:=h2 i _ (List.getElem?_eq_getElem hi)
exact⟨rfl,b,off,g,_,h3,h4,List.getElem?_eq_getElem hi,h5⟩)
theorem zit:∃ i,prog.info? 37 = some i∧i.zero=some (.pointer none)∧i.size=1∧i.bytes=8:=by(
have h:(prog.info? 37).map (fun i=>(i.zero,i.size,i.bytes))=some (some (.pointer none),1,8):=by kernel_rfl
cases e:prog.info? 37 with
| none=>rw[e] at h;simp at h
| some i =>
 rw[e] at h
 simp only[Option.map_some,Option.some.injEq,Prod.mk.injEq] at h
 exact⟨i,rfl,h.1,h.2.1,h.2.2⟩)
structure zeh (w:World) (base:Nat) (v:Value) (fs:List Rat) (us:List Value):Prop where
 own:w.ownsRow base 37 1 v fs.length us
 len:us.length=fs.length
 val:∀ (i:Nat) (f:Rat),fs[i]? = some f→∃ u,us[i]? = some u∧zhc w u f
 nil:fs=[]→v=.slice none 0 0
theorem zeh.empty (w:World) (base:Nat):zeh w base (.slice none 0 0) [] []:=⟨World.ownsRow_nil _ _ _ _,rfl,fun i f h=>by simp at h,fun _=>rfl⟩
theorem zeh.but {w w':World} {base:Nat} {v:Value} {fs:List Rat} {us:List Value} (h:zeh w base v fs us) (hb:But [] w w'):zeh w' base v fs us :=
 ⟨zfq h.own hb,h.len,fun i f hi=>(h.val i f hi).elim fun u ⟨e,p⟩=>⟨u,e,p.but hb⟩,h.nil⟩
theorem zeh.form {w:World} {base:Nat} {v:Value} {fs:List Rat} {us:List Value} (h:zeh w base v fs us):∃ a c,v=.slice a fs.length c:=ownsRow_form h.own
theorem zeh.block {w:World} {base:Nat} {v:Value} {fs:List Rat} {us:List Value} (h:zeh w base v fs us) (h0:fs≠[]):∃ g cap,v=.slice (some ⟨g,0,none⟩) fs.length cap∧fs.length≤cap∧base≤g∧v.ownBlock=some g∧∃ q,w.cell? ⟨g,0,none⟩=some (.pointer q):=by(
have hl:0<fs.length:=List.length_pos_iff.2 h0
rcases h.own.2 with ⟨-,e⟩|⟨g,cap,cur,e,h1,h2,h3,-⟩
·omega
·refine⟨g,cap,e,h3,h1,by rw[e];rfl,?_⟩
 obtain⟨u,hu,b,rfl,-⟩:=h.val 0 _ (List.getElem?_eq_getElem hl)
 have hc:=h.own.cells (g:=g) (by rw[e];rfl) 0 _ hu
 exact⟨_,by simpa [Addr.add] using hc⟩)
theorem zeh.qai {w:World} {base:Nat} {v:Value} {fs:List Rat} {us:List Value} (h:zeh w base v fs us):za w v fs:=by(
by_cases h0:fs=[]
·subst h0
 rw[h.nil rfl]
 exact⟨none,0,rfl,Nat.le_refl _,fun i x hx=>by simp at hx⟩
·(
obtain⟨g,cap,e,h3,-,e2,-⟩:=h.block h0
refine⟨_,cap,e,h3,fun i f hi=>?_⟩
obtain⟨u,hu,hp⟩:=h.val i f hi
refine⟨g,0,u,rfl,?_,hp⟩
have hc:=h.own.cells (g:=g) (by rw[e];rfl) i u hu
have ea:(⟨g,0,none⟩:Addr).add i=⟨g,0+i,none⟩:=by
 by_cases hz:i=0
 ·simp[Addr.add,hz]
 ·simp[Addr.add,hz]
rw[ea] at hc
exact hc))
theorem zxi (w w0:World) (v:Value) (fs:List Rat) (us:List Value) (base:Nat) (hown:zeh w base v fs us) (g:Nat) (u:Value) (f:Rat) (c:w.cell? ⟨g,0,none⟩=some u) (hp:zhc w u f) (hk:fs.length<1000000) (h0:But [] w0 w) (hb:w0.heap.size≤base) (hw:base≤w.heap.size) :
  ∃ v' w',(Builtin.append_ #[42,42] 42 #[v,.slice (some ⟨g,0,none⟩) 1 1]).run prog w=.ok v' w'∧zeh w' base v' (fs++[f]) (us++[u])∧But [] w0 w'∧But v.ownBlock.toList w w'∧w.heap.size≤w'.heap.size∧(∀ (b:Nat) (r:Rat),zo w b r→zo w' b r):=by(
obtain⟨i0,hi,hz0,hz1,hz2⟩:=zit
obtain⟨v',w',hr,ho,hg,-⟩:=run_append_own (P:=prog) w base 42 42 37 i0 _ 1 8 underlying42 hi hz0 hz1 hz2 rfl (by decide) v fs.length us hown.own ⟨g,0,none⟩ 1 1 [u] rfl (fun j x hj=>by
  cases j with
  | zero=>simp at hj;subst hj;exact c
  | succ j=>simp at hj) (fun x hx=>by
  simp only[List.mem_cons,List.not_mem_nil,or_false] at hx
  subst hx
  obtain⟨b,rfl,-⟩:=hp
  rfl) (by unfold maxLen;omega) (by omega) hw
have hB:But v.ownBlock.toList w w':=⟨hg.os,hg.tape,hg.output,hg.size,fun j hj hn=>hg.block j hj (by
 intro e
 rw[← e] at hn
 simp at hn)⟩
have stay:∀ (b:Nat) (r:Rat),zo w b r→zo w' b r:=by
 by_cases h1:fs=[]
 ·have:v.ownBlock=none:=by rw[hown.nil h1];rfl
  rw[this] at hB
  exact fun b r h=>h.but hB
 ·obtain⟨gb,cap,-,-,-,e2,q,hq⟩:=hown.block h1
  rw[e2] at hB
  exact fun b r h=>h.zpp hB hq (zjw q)
have stayP:∀ (x:Value) (r:Rat),zhc w x r→zhc w' x r:=fun x r ⟨b,e,h⟩=>⟨b,e,stay b r h⟩
refine⟨v',w',hr,⟨by rw[List.length_append];exact ho,by simp[hown.len],fun i q hi=>?_,fun e=>by simp at e⟩,ou h0 hown.own hb hg,hB,hg.size,stay⟩
rcases Nat.lt_or_ge i fs.length with hlt | hge
·rw[List.getElem?_append_left hlt] at hi
 obtain⟨x,e1,h1⟩:=hown.val i q hi
 exact⟨x,by rw[List.getElem?_append_left (by rw[hown.len];exact hlt)];exact e1,stayP _ _ h1⟩
·(
have hi0:i=fs.length:=by
 have:=(List.getElem?_eq_some_iff.1 hi).1
 simp at this
 omega
subst hi0
rw[List.getElem?_append_right (Nat.le_refl _),Nat.sub_self] at hi
simp only[List.getElem?_cons_zero,Option.some.injEq] at hi
subst hi
refine⟨u,?_,stayP _ _ hp⟩
rw[List.getElem?_append_right (by rw[hown.len];exact Nat.le_refl _),hown.len,Nat.sub_self]
rfl))
theorem qdp (a:Act) (w:World) (d:Nat) (u:TypeId) (ps:String) (ed:Array Edge) (gd:Option (Nat × Bool)) (n:Int) :
  (execOp a.eval { dst:=some d,op:=Op.call { callee:=Callee.value (Operand.func 114),args:=#[Operand.const (Value.int IntKind.i64 n)],argTypes:=#[3] },type:=u,pos:=ps,after:=ed,guard:=gd }).run prog w=.ok (.enter 114 #[.int .i64 n]) w:=by
 unfold execOp
 go_simp
theorem qdr (a:Act) (w:World) (d t:Nat) (u:TypeId) (ps:String) (ed:Array Edge) (gd:Option (Nat × Bool)) (x:Int) (h:a.eval (.tmp t)=.int .i64 x) :
  (execOp a.eval { dst:=some d,op:=Op.binOp BinOp.eql 3 (.tmp t) (.const (.int .i64 0)) 3,type:=u,pos:=ps,after:=ed,guard:=gd }).run prog w=.ok (.value (.bool (x==0))) w:=by(
have e:a.eval (.const (.int .i64 0))=.int .i64 0:=rfl
unfold execOp
simp only[h,e]
go_simp)
theorem zvy (a:Act) (w:World) (d t1:Nat) (u:TypeId) (ps:String) (ed:Array Edge) (gd:Option (Nat × Bool)) (x1:Value) (h1:a.eval (.tmp t1)=x1) :
  (execOp a.eval { dst:=some d,op:=Op.call { callee:=Callee.value (Operand.func 156),args:=#[Operand.tmp t1],argTypes:=#[27] },type:=u,pos:=ps,after:=ed,guard:=gd }).run prog w=.ok (.enter 156 #[x1]) w:=by(
unfold execOp
go_simp
rw[← h1]
simp[Act.eval])
theorem zvw (a:Act) (w:World) (d t1:Nat) (u:TypeId) (ps:String) (ed:Array Edge) (gd:Option (Nat × Bool)) (x1:Value) (h1:a.eval (.tmp t1)=x1) :
  (execOp a.eval { dst:=some d,op:=Op.call { callee:=Callee.value (Operand.func 243),args:=#[Operand.tmp t1],argTypes:=#[27] },type:=u,pos:=ps,after:=ed,guard:=gd }).run prog w=.ok (.enter 243 #[x1]) w:=by(
unfold execOp
go_simp
rw[← h1]
simp[Act.eval])
def qfl:Oper:=⟨some 12,.load 27 (.tmp 1),27, "whole.go:24",#[],none⟩
def qfk:Oper:=⟨some 13,.load 27 (.tmp 1),27, "whole.go:24",#[],none⟩
def qfj:Oper:=⟨some 14,.call { callee:=.value (.func 156),args:=#[.tmp 13],argTypes:=#[27] },27, "whole.go:24",#[⟨1,.data⟩],none⟩
def qfi:Oper:=⟨some 15,.call { callee:=.value (.func 82),args:=#[.tmp 12,.tmp 14],argTypes:=#[27,27] },3, "whole.go:24",#[⟨0,.data⟩,⟨2,.data⟩,⟨2,.chain⟩],none⟩
def qfh:Oper:=⟨some 16,.binOp .eql 3 (.tmp 15) (.const (.int .i64 0)) 3,4, "whole.go:24",#[⟨3,.data⟩],none⟩
def zft:Array Oper:=#[qfl,qfk,qfj,qfi,qfh]
def zkw (i:Nat):Nat:=match i with
 | 0=>12
 | 1=>13
 | 2=>14
 | 3=>15
 | _=>16
def zyo (s1:Bool) (x1:Int) (y1:Int) (p1:Option Addr) (r:Int) (g:Rat) (i:Nat) (w:World) (v:Value):Prop:=match i with
 | 0=>v=.agg #[.bool s1,.int .u64 x1,.int .u64 y1,.pointer p1]
 | 1=>v=.agg #[.bool s1,.int .u64 x1,.int .u64 y1,.pointer p1]
 | 2=>aq w v g
 | 3=>v=.int .i64 r
 | _=>v=.bool (r==0)
theorem qbd {s1:Bool} {x1:Int} {y1:Int} {p1:Option Addr} {r:Int} {g:Rat} {i:Nat} {w w':World} {v:Value} (h:zyo s1 x1 y1 p1 r g i w v) (hi:i<5) (hb:But [] w w'):zyo s1 x1 y1 p1 r g i w' v:=by(
have:i=0∨i=1∨i=2∨i=3∨i=4:=by omega
rcases this with rfl|rfl|rfl|rfl|rfl
all_goals first | exact h | exact aq.but h hb | exact au.but h hb)
theorem qbc:∀ i j,i<5→j<5→zkw i=zkw j→i=j:=fun i j hi hj=>(by decide:∀ i,i<5→∀ j,j<5→zkw i=zkw j→i=j) i hi j hj
theorem zou (id:Nat) (Q:Exit→Act→World→Prop) (base:Act) (W0:World) (s1:Bool) (x1:Int) (y1:Int) (p1:Option Addr) (r:Int) (g:Rat) (hs:16<base.tmps.size) (g1:Nat) (e1:base.eval (.tmp 1)=.pointer (some ⟨g1,0,none⟩))
  (c1:P4 W0 g1 s1 x1 y1 p1)
  (FL:∀ w,But [] W0 w→Calls prog 156 #[.agg #[.bool s1,.int .u64 x1,.int .u64 y1,.pointer p1]] w fun e w'=>∃ v,e=.returned v∧aq w' v g∧But [] w w')
  (CM:∀ w,But [] W0 w→∀ v,aq w v g→Calls prog 82 #[.agg #[.bool s1,.int .u64 x1,.int .u64 y1,.pointer p1],v] w fun e w'=>e=.returned (.int .i64 r)∧But [] w w')
  (hQ:∀ w (v2:Value),But [] W0 w→Q .normal (bj base [(12,.agg #[.bool s1,.int .u64 x1,.int .u64 y1,.pointer p1]),(13,.agg #[.bool s1,.int .u64 x1,.int .u64 y1,.pointer p1]),(14,v2),(15,.int .i64 r),(16,.bool (r==0))]) w) :
  (Code.region id zft true).wp prog Q base W0:=by(
have hdr:∀ {w},But [] W0.drew w→But [] W0 w:=fun h=>(But.refl _ _).drew.trans' h
have hT:∀ i,i<5→zkw i<base.tmps.size:=fun i hi=>by
 have h:zkw i≤16:=by revert i;decide
 omega
refine zpj (by kernel_rfl) (zco (by kernel_rfl)) (zyo s1 x1 y1 p1 r g) zkw (by kernel_rfl) ?_ qbc hT (fun i w w' v hi h hb=>qbd h hi hb) ?_ ?_
·(
intro i o j want ho hg w v hv
have hi:i<5:=(Array.getElem?_eq_some_iff.1 ho).1
have:i=0∨i=1∨i=2∨i=3∨i=4:=by omega
rcases this with rfl|rfl|rfl|rfl|rfl
·obtain rfl:=so (show zft[0]? =some qfl from rfl) ho
 exact absurd (show (none:Option (Nat × Bool))=some (j,want) from hg) (by simp)
·obtain rfl:=so (show zft[1]? =some qfk from rfl) ho
 exact absurd (show (none:Option (Nat × Bool))=some (j,want) from hg) (by simp)
·obtain rfl:=so (show zft[2]? =some qfj from rfl) ho
 exact absurd (show (none:Option (Nat × Bool))=some (j,want) from hg) (by simp)
·obtain rfl:=so (show zft[3]? =some qfi from rfl) ho
 exact absurd (show (none:Option (Nat × Bool))=some (j,want) from hg) (by simp)
·obtain rfl:=so (show zft[4]? =some qfh from rfl) ho
 exact absurd (show (none:Option (Nat × Bool))=some (j,want) from hg) (by simp))
·(
intro i o a w K ho hH he hdep hk
have hi:i<5:=(Array.getElem?_eq_some_iff.1 ho).1
have hD:=zcr (ps:=[(2,1),(3,0),(3,2),(4,3)]) (by kernel_rfl) ho (fun j=>zyo s1 x1 y1 p1 r g j w (a.eval (.tmp (zkw j)))) hdep
have e1':=(he 1 (fun j hj e=>absurd e.symm (by revert j;decide))).trans e1
have:i=0∨i=1∨i=2∨i=3∨i=4:=by omega
rcases this with rfl|rfl|rfl|rfl|rfl
·obtain rfl:=so (show zft[0]? =some qfl from rfl) ho
 exact al (aw a w _ _ _ _ _ _ g1 0 _ _ _ _ e1' (c1.but (hdr hH) (by simp))) (hk _ _ (But.refl _ _) rfl)
·obtain rfl:=so (show zft[1]? =some qfk from rfl) ho
 exact al (aw a w _ _ _ _ _ _ g1 0 _ _ _ _ e1' (c1.but (hdr hH) (by simp))) (hk _ _ (But.refl _ _) rfl)
·obtain rfl:=so (show zft[2]? =some qfj from rfl) ho
 exact ay (zvy a w _ _ _ _ _ _ _ (hD 1 (by simp))) (R:=fun w' v=>aq w' v (g)∧But [] w w') (FL w (hdr hH)) (fun v w' hv=>hk v w' hv.2 hv.1)
·obtain rfl:=so (show zft[3]? =some qfi from rfl) ho
 exact ay (zsw a w _ _ _ _ _ _ _ _ _ (hD 0 (by simp)) rfl) (R:=fun w' v=>But [] w w'∧v=_) ((CM w (hdr hH) _ (hD 2 (by simp))).mono fun e w' ⟨he,hb⟩=>⟨_,he,hb,rfl⟩) (fun v w' hv=>hk v w' hv.1 hv.2)
·obtain rfl:=so (show zft[4]? =some qfh from rfl) ho
 exact al (qdr a w _ _ _ _ _ _ _ (hD 3 (by simp))) (hk _ _ (But.refl _ _) rfl))
·(
intro a w h
have ea:=h.puts hT (fun i=>match i with
 | 0=>.agg #[.bool s1,.int .u64 x1,.int .u64 y1,.pointer p1]
 | 1=>.agg #[.bool s1,.int .u64 x1,.int .u64 y1,.pointer p1]
 | 2=>a.eval (.tmp 14)
 | 3=>.int .i64 r
 | _=>.bool (r==0)) (fun i hi=>by
 have hi':i<5:=hi
 have hc:=h.has i hi rfl
 have:i=0∨i=1∨i=2∨i=3∨i=4:=by omega
 rcases this with rfl|rfl|rfl|rfl|rfl
 all_goals first | exact hc|rfl)
rw[ea]
exact hQ w (a.eval (.tmp 14)) (hdr h.but)))
def qmb:Oper:=⟨some 44,.load 27 (.tmp 6),27, "whole.go:33",#[],none⟩
def qma:Oper:=⟨some 45,.load 27 (.tmp 10),27, "whole.go:33",#[],none⟩
def qlz:Oper:=⟨some 46,.call { callee:=.value (.func 104),args:=#[.tmp 44,.tmp 45],argTypes:=#[27,27] },27, "whole.go:33",#[⟨0,.data⟩,⟨1,.data⟩],none⟩
def qly:Oper:=⟨some 47,.load 27 (.tmp 8),27, "whole.go:33",#[],none⟩
def qlx:Oper:=⟨some 48,.call { callee:=.value (.func 115),args:=#[.tmp 46,.tmp 47],argTypes:=#[27,27] },27, "whole.go:33",#[⟨2,.data⟩,⟨3,.data⟩,⟨2,.chain⟩],none⟩
def qlw:Oper:=⟨none,.store 27 (.tmp 6) (.tmp 48),0, "whole.go:33",#[⟨4,.data⟩,⟨4,.chain⟩,⟨0,.phase⟩,⟨1,.phase⟩,⟨2,.phase⟩,⟨3,.phase⟩,⟨4,.phase⟩],none⟩
def zil:Array Oper:=#[qmb,qma,qlz,qly,qlx,qlw]
def zim (i:Nat):Nat:=match i with
 | 0=>44
 | 1=>45
 | 2=>46
 | 3=>47
 | _=>48
def ztr (s1:Bool) (x1:Int) (y1:Int) (p1:Option Addr) (s2:Bool) (x2:Int) (y2:Int) (p2:Option Addr) (s3:Bool) (x3:Int) (y3:Int) (p3:Option Addr) (f1:Rat) (f2:Rat) (f3:Rat) (i:Nat) (w:World) (v:Value):Prop:=match i with
 | 0=>v=.agg #[.bool s1,.int .u64 x1,.int .u64 y1,.pointer p1]
 | 1=>v=.agg #[.bool s2,.int .u64 x2,.int .u64 y2,.pointer p2]
 | 2=>aq w v (f1*f2)
 | 3=>v=.agg #[.bool s3,.int .u64 x3,.int .u64 y3,.pointer p3]
 | _=>aq w v (f1*f2+f3)
theorem qbb {s1:Bool} {x1:Int} {y1:Int} {p1:Option Addr} {s2:Bool} {x2:Int} {y2:Int} {p2:Option Addr} {s3:Bool} {x3:Int} {y3:Int} {p3:Option Addr} {f1:Rat} {f2:Rat} {f3:Rat} {i:Nat} {w w':World} {v:Value} (h:ztr s1 x1 y1 p1 s2 x2 y2 p2 s3 x3 y3 p3 f1 f2 f3 i w v) (hi:i<5) (hb:But [] w w'):ztr s1 x1 y1 p1 s2 x2 y2 p2 s3 x3 y3 p3 f1 f2 f3 i w' v:=by(
have:i=0∨i=1∨i=2∨i=3∨i=4:=by omega
rcases this with rfl|rfl|rfl|rfl|rfl
all_goals first | exact h | exact aq.but h hb | exact au.but h hb)
theorem qba:∀ i j,i<5→j<5→zim i=zim j→i=j:=fun i j hi hj=>(by decide:∀ i,i<5→∀ j,j<5→zim i=zim j→i=j) i hi j hj
theorem zot (id:Nat) (Q:Exit→Act→World→Prop) (base:Act) (W0:World) (s1:Bool) (x1:Int) (y1:Int) (p1:Option Addr) (s2:Bool) (x2:Int) (y2:Int) (p2:Option Addr) (s3:Bool) (x3:Int) (y3:Int) (p3:Option Addr) (f1:Rat) (f2:Rat) (f3:Rat) (gb g8 g10:Nat) {sb:Bool} {xb yb:Int} {pb:Option Addr} (hs:48<base.tmps.size) (eb:base.eval (.tmp 6)=.pointer (some ⟨gb,0,none⟩)) (cb:P4 W0 gb sb xb yb pb) (fzb:∀ j,W0.frozen? ⟨gb,j,none⟩=false) (e10:base.eval (.tmp 10)=.pointer (some ⟨g10,0,none⟩)) (e8:base.eval (.tmp 8)=.pointer (some ⟨g8,0,none⟩))
  (c1:P4 W0 gb s1 x1 y1 p1) (c2:P4 W0 g10 s2 x2 y2 p2) (c3:P4 W0 g8 s3 x3 y3 p3)
  (MU:∀ w,But [] W0 w→Calls prog 104 #[.agg #[.bool s1,.int .u64 x1,.int .u64 y1,.pointer p1],.agg #[.bool s2,.int .u64 x2,.int .u64 y2,.pointer p2]] w fun e w'=>∃ v,e=.returned v∧aq w' v (f1*f2)∧But [] w w')
  (AD:∀ w,But [] W0 w→∀ v,aq w v (f1*f2)→Calls prog 115 #[v,.agg #[.bool s3,.int .u64 x3,.int .u64 y3,.pointer p3]] w fun e w'=>∃ v,e=.returned v∧aq w' v (f1*f2+f3)∧But [] w w')
  (hQ:∀ w1 v2 s' x' y' p',But [] W0 w1→aq w1 (.agg #[.bool s',.int .u64 x',.int .u64 y',.pointer p']) (f1*f2+f3)→Q .normal (bj base [(44,.agg #[.bool s1,.int .u64 x1,.int .u64 y1,.pointer p1]),(45,.agg #[.bool s2,.int .u64 x2,.int .u64 y2,.pointer p2]),(46,v2),(47,.agg #[.bool s3,.int .u64 x3,.int .u64 y3,.pointer p3]),(48,(.agg #[.bool s',.int .u64 x',.int .u64 y',.pointer p']))]) (zbt w1 gb s' x' y' p')) :
  (Code.region id zil true).wp prog Q base W0:=by(
have hdr:∀ {w},But [] W0.drew w→But [] W0 w:=fun h=>(But.refl _ _).drew.trans' h
have lgb:gb<W0.heap.size:=ai cb.1
have hT:∀ i,i<5→zim i<base.tmps.size:=fun i hi=>by
 have h:zim i≤48:=by revert i;decide
 omega
refine zbb (by kernel_rfl) (zco (by kernel_rfl)) (fun i o ho=>(zjh (ops:=zil) (by kernel_rfl) i o ho).1)
 (fun _ w=>But [] W0.drew w) (ztr s1 x1 y1 p1 s2 x2 y2 p2 s3 x3 y3 p3 f1 f2 f3) zim 5 rfl qba hT (But.refl _ _)
 (fun i hi=>?_) ?_ (fun a w=>∃ w1 v2 s' x' y' p',a=bj base [(44,.agg #[.bool s1,.int .u64 x1,.int .u64 y1,.pointer p1]),(45,.agg #[.bool s2,.int .u64 x2,.int .u64 y2,.pointer p2]),(46,v2),(47,.agg #[.bool s3,.int .u64 x3,.int .u64 y3,.pointer p3]),(48,(.agg #[.bool s',.int .u64 x',.int .u64 y',.pointer p']))]∧w=zbt w1 gb s' x' y' p'∧But [] W0 w1∧aq w1 (.agg #[.bool s',.int .u64 x',.int .u64 y',.pointer p']) (f1*f2+f3)) ?_ ?_
·exact zga (ops:=zil) (ps:=[(5,0),(5,1),(5,2),(5,3),(5,4)]) (by kernel_rfl) 5 i (by
  have:i=0∨i=1∨i=2∨i=3∨i=4:=by omega
  rcases this with rfl|rfl|rfl|rfl|rfl <;> simp)
·(
intro dn i o a w K hi ho hdi hH he hdep hK
have hD:=fun j hj=>(zcr (ps:=[(2,0),(2,1),(4,2),(4,3)]) (by kernel_rfl) ho (fun j=>dn j=true∧ztr s1 x1 y1 p1 s2 x2 y2 p2 s3 x3 y3 p3 f1 f2 f3 j w (a.eval (.tmp (zim j)))) hdep j hj).2
have hk:∀ v w',But [] w w'→ztr s1 x1 y1 p1 s2 x2 y2 p2 s3 x3 y3 p3 f1 f2 f3 i w' v→K (a.put (some (zim i)) v) w':=fun v w' hb hv=>hK v w' (hH.trans' hb) (fun j hj _ u hu=>qbb hu hj hb) hv
have eb':=(he 6 (fun j hj e=>absurd e.symm (by revert j;decide))).trans eb
have e10':=(he 10 (fun j hj e=>absurd e.symm (by revert j;decide))).trans e10
have e8':=(he 8 (fun j hj e=>absurd e.symm (by revert j;decide))).trans e8
have:i=0∨i=1∨i=2∨i=3∨i=4:=by omega
rcases this with rfl|rfl|rfl|rfl|rfl
·obtain rfl:=so (show zil[0]? =some qmb from rfl) ho
 exact al (aw a w _ _ _ _ _ _ gb 0 _ _ _ _ eb' (c1.but (hdr hH) (by simp))) (hk _ _ (But.refl _ _) rfl)
·obtain rfl:=so (show zil[1]? =some qma from rfl) ho
 exact al (aw a w _ _ _ _ _ _ g10 0 _ _ _ _ e10' (c2.but (hdr hH) (by simp))) (hk _ _ (But.refl _ _) rfl)
·obtain rfl:=so (show zil[2]? =some qlz from rfl) ho
 exact ay (zfk a w _ _ _ _ _ _ _ _ _ (hD 0 (by simp)) (hD 1 (by simp))) (R:=fun w' v=>aq w' v (f1*f2)∧But [] w w') (MU w (hdr hH)) (fun v w' hv=>hk v w' hv.2 hv.1)
·obtain rfl:=so (show zil[3]? =some qly from rfl) ho
 exact al (aw a w _ _ _ _ _ _ g8 0 _ _ _ _ e8' (c3.but (hdr hH) (by simp))) (hk _ _ (But.refl _ _) rfl)
·obtain rfl:=so (show zil[4]? =some qlx from rfl) ho
 exact ay (zms a w _ _ _ _ _ _ _ _ _ rfl (hD 3 (by simp))) (R:=fun w' v=>aq w' v (f1*f2+f3)∧But [] w w') (AD w (hdr hH) _ (hD 2 (by simp))) (fun v w' hv=>hk v w' hv.2 hv.1))
·(
intro dn o a w K ho hall h hK
obtain rfl:=so (show zil[5]? =some qlw from rfl) ho
have eb':=(h.eval 6 (fun j hj e=>absurd e.symm (by revert j;decide))).trans eb
have cl:aq w (a.eval (.tmp 48)) (f1*f2+f3):=h.has 4 (by omega) (hall 4 (by omega))
have cl':=cl
obtain⟨x',y',p',ev,-⟩:=cl.agg
rw[ev] at cl'
have ea:=h.puts hT (fun i=>match i with
 | 0=>.agg #[.bool s1,.int .u64 x1,.int .u64 y1,.pointer p1]
 | 1=>.agg #[.bool s2,.int .u64 x2,.int .u64 y2,.pointer p2]
 | 2=>a.eval (.tmp 46)
 | 3=>.agg #[.bool s3,.int .u64 x3,.int .u64 y3,.pointer p3]
 | _=>.agg #[.bool (decide ((f1*f2+f3).num<0)),.int .u64 x',.int .u64 y',.pointer p']) (fun i hi=>by
 have hc:=h.has i hi (hall i hi)
 have:i=0∨i=1∨i=2∨i=3∨i=4:=by omega
 rcases this with rfl|rfl|rfl|rfl|rfl
 all_goals first | exact ev | exact hc|rfl)
exact zal (zmq a w _ _ _ _ _ gb _ x' y' p' eb' ev (cb.but (hdr h.mem) (by simp)) (fun j=>((hdr h.mem).frozen (p:=⟨gb,j,none⟩) lgb (by simp)).trans (fzb j))) (hK _ _ ⟨w,a.eval (.tmp 46),_,x',y',p',ea,rfl,hdr h.mem,cl'⟩))
·rintro a w ⟨w1,v2,s',x',y',p',rfl,rfl,h1,h2⟩
 exact hQ  w1 v2 s' x' y' p' h1 h2)
def qlv:Oper:=⟨some 21,.load 27 (.tmp 3),27, "whole.go:16",#[],none⟩
def qlu:Oper:=⟨some 22,.load 27 (.tmp 7),27, "whole.go:16",#[],none⟩
def qlt:Oper:=⟨some 23,.load 27 (.tmp 3),27, "whole.go:16",#[],none⟩
def qls:Oper:=⟨some 24,.call { callee:=.value (.func 104),args:=#[.tmp 22,.tmp 23],argTypes:=#[27,27] },27, "whole.go:16",#[⟨1,.data⟩,⟨2,.data⟩],none⟩
def qlr:Oper:=⟨some 25,.call { callee:=.value (.func 243),args:=#[.tmp 24],argTypes:=#[27] },27, "whole.go:16",#[⟨3,.data⟩,⟨3,.chain⟩],none⟩
def qlq:Oper:=⟨some 26,.call { callee:=.value (.func 104),args:=#[.tmp 21,.tmp 25],argTypes:=#[27,27] },27, "whole.go:16",#[⟨0,.data⟩,⟨4,.data⟩,⟨4,.chain⟩],none⟩
def qlp:Oper:=⟨none,.store 27 (.tmp 3) (.tmp 26),0, "whole.go:16",#[⟨5,.data⟩,⟨5,.chain⟩,⟨0,.phase⟩,⟨1,.phase⟩,⟨2,.phase⟩,⟨3,.phase⟩,⟨4,.phase⟩,⟨5,.phase⟩],none⟩
def zgy:Array Oper:=#[qlv,qlu,qlt,qls,qlr,qlq,qlp]
def zik (i:Nat):Nat:=match i with
 | 0=>21
 | 1=>22
 | 2=>23
 | 3=>24
 | 4=>25
 | _=>26
def ztq (s1:Bool) (x1:Int) (y1:Int) (p1:Option Addr) (s2:Bool) (x2:Int) (y2:Int) (p2:Option Addr) (f1:Rat) (f2:Rat) (z:Rat) (i:Nat) (w:World) (v:Value):Prop:=match i with
 | 0=>v=.agg #[.bool s1,.int .u64 x1,.int .u64 y1,.pointer p1]
 | 1=>v=.agg #[.bool s2,.int .u64 x2,.int .u64 y2,.pointer p2]
 | 2=>v=.agg #[.bool s1,.int .u64 x1,.int .u64 y1,.pointer p1]
 | 3=>aq w v (f2*f1)
 | 4=>aq w v z
 | _=>aq w v (f1*z)
theorem qaz {s1:Bool} {x1:Int} {y1:Int} {p1:Option Addr} {s2:Bool} {x2:Int} {y2:Int} {p2:Option Addr} {f1:Rat} {f2:Rat} {z:Rat} {i:Nat} {w w':World} {v:Value} (h:ztq s1 x1 y1 p1 s2 x2 y2 p2 f1 f2 z i w v) (hi:i<6) (hb:But [] w w'):ztq s1 x1 y1 p1 s2 x2 y2 p2 f1 f2 z i w' v:=by(
have:i=0∨i=1∨i=2∨i=3∨i=4∨i=5:=by omega
rcases this with rfl|rfl|rfl|rfl|rfl|rfl
all_goals first | exact h | exact aq.but h hb | exact au.but h hb)
theorem qay:∀ i j,i<6→j<6→zik i=zik j→i=j:=fun i j hi hj=>(by decide:∀ i,i<6→∀ j,j<6→zik i=zik j→i=j) i hi j hj
theorem zoz (id:Nat) (Q:Exit→Act→World→Prop) (base:Act) (W0:World) (s1:Bool) (x1:Int) (y1:Int) (p1:Option Addr) (s2:Bool) (x2:Int) (y2:Int) (p2:Option Addr) (f1:Rat) (f2:Rat) (z:Rat) (gb g7:Nat) {sb:Bool} {xb yb:Int} {pb:Option Addr} (hs:26<base.tmps.size) (eb:base.eval (.tmp 3)=.pointer (some ⟨gb,0,none⟩)) (cb:P4 W0 gb sb xb yb pb) (fzb:∀ j,W0.frozen? ⟨gb,j,none⟩=false) (e7:base.eval (.tmp 7)=.pointer (some ⟨g7,0,none⟩))
  (c1:P4 W0 gb s1 x1 y1 p1) (c2:P4 W0 g7 s2 x2 y2 p2)
  (MU:∀ w,But [] W0 w→Calls prog 104 #[.agg #[.bool s2,.int .u64 x2,.int .u64 y2,.pointer p2],.agg #[.bool s1,.int .u64 x1,.int .u64 y1,.pointer p1]] w fun e w'=>∃ v,e=.returned v∧aq w' v (f2*f1)∧But [] w w')
  (LO:∀ w,But [] W0 w→∀ v,aq w v (f2*f1)→Calls prog 243 #[v] w fun e w'=>∃ v,e=.returned v∧aq w' v z∧But [] w w')
  (MZ:∀ w,But [] W0 w→∀ v,aq w v z→Calls prog 104 #[.agg #[.bool s1,.int .u64 x1,.int .u64 y1,.pointer p1],v] w fun e w'=>∃ v,e=.returned v∧aq w' v (f1*z)∧But [] w w')
  (hQ:∀ w1 v3 v4 s' x' y' p',But [] W0 w1→aq w1 (.agg #[.bool s',.int .u64 x',.int .u64 y',.pointer p']) (f1*z)→Q .normal (bj base [(21,.agg #[.bool s1,.int .u64 x1,.int .u64 y1,.pointer p1]),(22,.agg #[.bool s2,.int .u64 x2,.int .u64 y2,.pointer p2]),(23,.agg #[.bool s1,.int .u64 x1,.int .u64 y1,.pointer p1]),(24,v3),(25,v4),(26,(.agg #[.bool s',.int .u64 x',.int .u64 y',.pointer p']))]) (zbt w1 gb s' x' y' p')) :
  (Code.region id zgy true).wp prog Q base W0:=by(
have hdr:∀ {w},But [] W0.drew w→But [] W0 w:=fun h=>(But.refl _ _).drew.trans' h
have lgb:gb<W0.heap.size:=ai cb.1
have hT:∀ i,i<6→zik i<base.tmps.size:=fun i hi=>by
 have h:zik i≤26:=by revert i;decide
 omega
refine zbb (by kernel_rfl) (zco (by kernel_rfl)) (fun i o ho=>(zjh (ops:=zgy) (by kernel_rfl) i o ho).1)
 (fun _ w=>But [] W0.drew w) (ztq s1 x1 y1 p1 s2 x2 y2 p2 f1 f2 z) zik 6 rfl qay hT (But.refl _ _)
 (fun i hi=>?_) ?_ (fun a w=>∃ w1 v3 v4 s' x' y' p',a=bj base [(21,.agg #[.bool s1,.int .u64 x1,.int .u64 y1,.pointer p1]),(22,.agg #[.bool s2,.int .u64 x2,.int .u64 y2,.pointer p2]),(23,.agg #[.bool s1,.int .u64 x1,.int .u64 y1,.pointer p1]),(24,v3),(25,v4),(26,(.agg #[.bool s',.int .u64 x',.int .u64 y',.pointer p']))]∧w=zbt w1 gb s' x' y' p'∧But [] W0 w1∧aq w1 (.agg #[.bool s',.int .u64 x',.int .u64 y',.pointer p']) (f1*z)) ?_ ?_
·exact zga (ops:=zgy) (ps:=[(6,0),(6,1),(6,2),(6,3),(6,4),(6,5)]) (by kernel_rfl) 6 i (by
  have:i=0∨i=1∨i=2∨i=3∨i=4∨i=5:=by omega
  rcases this with rfl|rfl|rfl|rfl|rfl|rfl <;> simp)
·(
intro dn i o a w K hi ho hdi hH he hdep hK
have hD:=fun j hj=>(zcr (ps:=[(3,1),(3,2),(4,3),(5,0),(5,4)]) (by kernel_rfl) ho (fun j=>dn j=true∧ztq s1 x1 y1 p1 s2 x2 y2 p2 f1 f2 z j w (a.eval (.tmp (zik j)))) hdep j hj).2
have hk:∀ v w',But [] w w'→ztq s1 x1 y1 p1 s2 x2 y2 p2 f1 f2 z i w' v→K (a.put (some (zik i)) v) w':=fun v w' hb hv=>hK v w' (hH.trans' hb) (fun j hj _ u hu=>qaz hu hj hb) hv
have eb':=(he 3 (fun j hj e=>absurd e.symm (by revert j;decide))).trans eb
have e7':=(he 7 (fun j hj e=>absurd e.symm (by revert j;decide))).trans e7
have:i=0∨i=1∨i=2∨i=3∨i=4∨i=5:=by omega
rcases this with rfl|rfl|rfl|rfl|rfl|rfl
·obtain rfl:=so (show zgy[0]? =some qlv from rfl) ho
 exact al (aw a w _ _ _ _ _ _ gb 0 _ _ _ _ eb' (c1.but (hdr hH) (by simp))) (hk _ _ (But.refl _ _) rfl)
·obtain rfl:=so (show zgy[1]? =some qlu from rfl) ho
 exact al (aw a w _ _ _ _ _ _ g7 0 _ _ _ _ e7' (c2.but (hdr hH) (by simp))) (hk _ _ (But.refl _ _) rfl)
·obtain rfl:=so (show zgy[2]? =some qlt from rfl) ho
 exact al (aw a w _ _ _ _ _ _ gb 0 _ _ _ _ eb' (c1.but (hdr hH) (by simp))) (hk _ _ (But.refl _ _) rfl)
·obtain rfl:=so (show zgy[3]? =some qls from rfl) ho
 exact ay (zfk a w _ _ _ _ _ _ _ _ _ (hD 1 (by simp)) (hD 2 (by simp))) (R:=fun w' v=>aq w' v (f2*f1)∧But [] w w') (MU w (hdr hH)) (fun v w' hv=>hk v w' hv.2 hv.1)
·obtain rfl:=so (show zgy[4]? =some qlr from rfl) ho
 exact ay (zvw a w _ _ _ _ _ _ _ rfl) (R:=fun w' v=>aq w' v (z)∧But [] w w') (LO w (hdr hH) _ (hD 3 (by simp))) (fun v w' hv=>hk v w' hv.2 hv.1)
·obtain rfl:=so (show zgy[5]? =some qlq from rfl) ho
 exact ay (zfk a w _ _ _ _ _ _ _ _ _ (hD 0 (by simp)) rfl) (R:=fun w' v=>aq w' v (f1*z)∧But [] w w') (MZ w (hdr hH) _ (hD 4 (by simp))) (fun v w' hv=>hk v w' hv.2 hv.1))
·(
intro dn o a w K ho hall h hK
obtain rfl:=so (show zgy[6]? =some qlp from rfl) ho
have eb':=(h.eval 3 (fun j hj e=>absurd e.symm (by revert j;decide))).trans eb
have cl:aq w (a.eval (.tmp 26)) (f1*z):=h.has 5 (by omega) (hall 5 (by omega))
have cl':=cl
obtain⟨x',y',p',ev,-⟩:=cl.agg
rw[ev] at cl'
have ea:=h.puts hT (fun i=>match i with
 | 0=>.agg #[.bool s1,.int .u64 x1,.int .u64 y1,.pointer p1]
 | 1=>.agg #[.bool s2,.int .u64 x2,.int .u64 y2,.pointer p2]
 | 2=>.agg #[.bool s1,.int .u64 x1,.int .u64 y1,.pointer p1]
 | 3=>a.eval (.tmp 24)
 | 4=>a.eval (.tmp 25)
 | _=>.agg #[.bool (decide ((f1*z).num<0)),.int .u64 x',.int .u64 y',.pointer p']) (fun i hi=>by
 have hc:=h.has i hi (hall i hi)
 have:i=0∨i=1∨i=2∨i=3∨i=4∨i=5:=by omega
 rcases this with rfl|rfl|rfl|rfl|rfl|rfl
 all_goals first | exact ev | exact hc|rfl)
exact zal (zmq a w _ _ _ _ _ gb _ x' y' p' eb' ev (cb.but (hdr h.mem) (by simp)) (fun j=>((hdr h.mem).frozen (p:=⟨gb,j,none⟩) lgb (by simp)).trans (fzb j))) (hK _ _ ⟨w,a.eval (.tmp 24),a.eval (.tmp 25),_,x',y',p',ea,rfl,hdr h.mem,cl'⟩))
·rintro a w ⟨w1,v3,v4,s',x',y',p',rfl,rfl,h1,h2⟩
 exact hQ  w1 v3 v4 s' x' y' p' h1 h2)
theorem qdq (a:Act) (w:World) (d t:Nat) (u:TypeId) (ps:String) (ed:Array Edge) (gd:Option (Nat × Bool)) (x:Int) (h:a.eval (.tmp t)=.int .i64 x) :
  (execOp a.eval { dst:=some d,op:=Op.binOp BinOp.neq 3 (.tmp t) (.const (.int .i64 0)) 3,type:=u,pos:=ps,after:=ed,guard:=gd }).run prog w=.ok (.value (.bool (x != 0))) w:=by(
have e:a.eval (.const (.int .i64 0))=.int .i64 0:=rfl
unfold execOp
simp only[h,e]
go_simp)
def qfg:Oper:=⟨some 29,.load 27 (.tmp 3),27, "claims.go:26",#[],none⟩
def qff:Oper:=⟨some 30,.call { callee:=.value (.func 114),args:=#[.const (.int .i64 1)],argTypes:=#[3] },27, "claims.go:26",#[],none⟩
def qfe:Oper:=⟨some 31,.call { callee:=.value (.func 82),args:=#[.tmp 29,.tmp 30],argTypes:=#[27,27] },3, "claims.go:26",#[⟨0,.data⟩,⟨1,.data⟩,⟨1,.chain⟩],none⟩
def qfd:Oper:=⟨some 32,.binOp .neq 3 (.tmp 31) (.const (.int .i64 0)) 3,4, "claims.go:26",#[⟨2,.data⟩],none⟩
def zij:Array Oper:=#[qfg,qff,qfe,qfd]
def zkv (i:Nat):Nat:=match i with
 | 0=>29
 | 1=>30
 | 2=>31
 | _=>32
def zyn (s1:Bool) (x1:Int) (y1:Int) (p1:Option Addr) (ws:Bool) (wx:Int) (r:Int) (i:Nat) (_w:World) (v:Value):Prop:=match i with
 | 0=>v=.agg #[.bool s1,.int .u64 x1,.int .u64 y1,.pointer p1]
 | 1=>v=.agg #[.bool ws,.int .u64 wx,.int .u64 0,.pointer none]
 | 2=>v=.int .i64 r
 | _=>v=.bool (r != 0)
theorem qax {s1:Bool} {x1:Int} {y1:Int} {p1:Option Addr} {ws:Bool} {wx:Int} {r:Int} {i:Nat} {w w':World} {v:Value} (h:zyn s1 x1 y1 p1 ws wx r i w v) (hi:i<4) (_hb:But [] w w'):zyn s1 x1 y1 p1 ws wx r i w' v:=by(
have:i=0∨i=1∨i=2∨i=3:=by omega
rcases this with rfl|rfl|rfl|rfl
all_goals exact h)
theorem qaw:∀ i j,i<4→j<4→zkv i=zkv j→i=j:=fun i j hi hj=>(by decide:∀ i,i<4→∀ j,j<4→zkv i=zkv j→i=j) i hi j hj
theorem zry (id:Nat) (Q:Exit→Act→World→Prop) (base:Act) (W0:World) (s1:Bool) (x1:Int) (y1:Int) (p1:Option Addr) (ws:Bool) (wx:Int) (r:Int) (hs:32<base.tmps.size) (g3:Nat) (e3:base.eval (.tmp 3)=.pointer (some ⟨g3,0,none⟩))
  (c1:P4 W0 g3 s1 x1 y1 p1)
  (WH:∀ w,Calls prog 114 #[.int .i64 1] w fun e w'=>e=.returned (.agg #[.bool ws,.int .u64 wx,.int .u64 0,.pointer none])∧But [] w w')
  (CM:∀ w,But [] W0 w→Calls prog 82 #[.agg #[.bool s1,.int .u64 x1,.int .u64 y1,.pointer p1],.agg #[.bool ws,.int .u64 wx,.int .u64 0,.pointer none]] w fun e w'=>e=.returned (.int .i64 r)∧But [] w w')
  (hQ:∀ w,But [] W0 w→Q .normal (bj base [(29,.agg #[.bool s1,.int .u64 x1,.int .u64 y1,.pointer p1]),(30,.agg #[.bool ws,.int .u64 wx,.int .u64 0,.pointer none]),(31,.int .i64 r),(32,.bool (r != 0))]) w) :
  (Code.region id zij true).wp prog Q base W0:=by(
have hdr:∀ {w},But [] W0.drew w→But [] W0 w:=fun h=>(But.refl _ _).drew.trans' h
have hT:∀ i,i<4→zkv i<base.tmps.size:=fun i hi=>by
 have h:zkv i≤32:=by revert i;decide
 omega
refine zpj (by kernel_rfl) (zco (by kernel_rfl)) (zyn s1 x1 y1 p1 ws wx r) zkv (by kernel_rfl) ?_ qaw hT (fun i w w' v hi h hb=>qax h hi hb) ?_ ?_
·(
intro i o j want ho hg w v hv
have hi:i<4:=(Array.getElem?_eq_some_iff.1 ho).1
have:i=0∨i=1∨i=2∨i=3:=by omega
rcases this with rfl|rfl|rfl|rfl
·obtain rfl:=so (show zij[0]? =some qfg from rfl) ho
 exact absurd (show (none:Option (Nat × Bool))=some (j,want) from hg) (by simp)
·obtain rfl:=so (show zij[1]? =some qff from rfl) ho
 exact absurd (show (none:Option (Nat × Bool))=some (j,want) from hg) (by simp)
·obtain rfl:=so (show zij[2]? =some qfe from rfl) ho
 exact absurd (show (none:Option (Nat × Bool))=some (j,want) from hg) (by simp)
·obtain rfl:=so (show zij[3]? =some qfd from rfl) ho
 exact absurd (show (none:Option (Nat × Bool))=some (j,want) from hg) (by simp))
·(
intro i o a w K ho hH he hdep hk
have hi:i<4:=(Array.getElem?_eq_some_iff.1 ho).1
have hD:=zcr (ps:=[(2,0),(2,1),(3,2)]) (by kernel_rfl) ho (fun j=>zyn s1 x1 y1 p1 ws wx r j w (a.eval (.tmp (zkv j)))) hdep
have e3':=(he 3 (fun j hj e=>absurd e.symm (by revert j;decide))).trans e3
have:i=0∨i=1∨i=2∨i=3:=by omega
rcases this with rfl|rfl|rfl|rfl
·obtain rfl:=so (show zij[0]? =some qfg from rfl) ho
 exact al (aw a w _ _ _ _ _ _ g3 0 _ _ _ _ e3' (c1.but (hdr hH) (by simp))) (hk _ _ (But.refl _ _) rfl)
·obtain rfl:=so (show zij[1]? =some qff from rfl) ho
 exact ay (qdp a w _ _ _ _ _ 1) (R:=fun w' v=>But [] w w'∧v=_) ((WH w).mono fun e w' ⟨he,hb⟩=>⟨_,he,hb,rfl⟩) (fun v w' hv=>hk v w' hv.1 hv.2)
·obtain rfl:=so (show zij[2]? =some qfe from rfl) ho
 exact ay (zsw a w _ _ _ _ _ _ _ _ _ (hD 0 (by simp)) (hD 1 (by simp))) (R:=fun w' v=>But [] w w'∧v=_) ((CM w (hdr hH)).mono fun e w' ⟨he,hb⟩=>⟨_,he,hb,rfl⟩) (fun v w' hv=>hk v w' hv.1 hv.2)
·obtain rfl:=so (show zij[3]? =some qfd from rfl) ho
 exact al (qdq a w _ _ _ _ _ _ _ (hD 2 (by simp))) (hk _ _ (But.refl _ _) rfl))
·(
intro a w h
have ea:=h.puts hT (fun i=>match i with
 | 0=>.agg #[.bool s1,.int .u64 x1,.int .u64 y1,.pointer p1]
 | 1=>.agg #[.bool ws,.int .u64 wx,.int .u64 0,.pointer none]
 | 2=>.int .i64 r
 | _=>.bool (r != 0)) (fun i hi=>by
 have hi':i<4:=hi
 have hc:=h.has i hi rfl
 have:i=0∨i=1∨i=2∨i=3:=by omega
 rcases this with rfl|rfl|rfl|rfl
 all_goals first | exact hc|rfl)
rw[ea]
exact hQ w (hdr h.but)))
theorem zzt (v vu:Value) (fs:List Rat) (u:Rat) (w:World) (hv:au w v fs) (hu:aq w vu u) (hn:fs.length≤100000) (lf:∀ f ∈ fs,Len f 1000000) (lu:Len u 1000000) :
  Calls prog 191 #[v,vu] w fun e w'=>∃ g,e=.returned (.slice (some ⟨g,0,none⟩) fs.length fs.length)∧uj w' g fs.length fs.length (fun i=>fs[i]?.getD 0*u)∧w.heap.size≤g∧g<w'.heap.size∧But [] w w':=by(
obtain⟨x1,y1,p1,rfl,-⟩:=id hu.agg
generalize hsf:decide (u.num<0)=s1 at *
clear hsf
obtain⟨q,cap,rfl,hcap,-⟩:=id hv
obtain⟨n,hN⟩:∃ n,n=fs.length:=⟨_,rfl⟩
rw[← hN] at hn hcap ⊢
rw[← hN] at hv
have HV:=af hv
have HU:=af hu
have HN:=af hN
have hmk:=fun wx=>zgo wx n (by omega)
clear hv hu hN
obtain⟨A,hA⟩:∃ A,A=w.alloc (.cells #[.bool s1,.int .u64 x1,.int .u64 y1,.pointer p1] 27):=⟨_,rfl⟩
have bA:But [] w A:=by rw[hA];exact (But.refl _ _).alloc _
have sA:A.heap.size=w.heap.size+1:=by rw[hA];simp
have cA:P4 A w.heap.size s1 x1 y1 p1:=by rw[hA];exact⟨by simp,by simp,by simp,by simp⟩
obtain⟨U,hU⟩:∃ U,U=(w.alloc (.cells #[.bool s1,.int .u64 x1,.int .u64 y1,.pointer p1] 27)).alloc (.cells (madeCells #[.bool false,.int .u64 0,.int .u64 0,.pointer none] (n*4)) 27):=⟨_,rfl⟩
have bU:But [] A U:=by rw[hU,← hA];exact (But.refl _ _).alloc _
have rU:uj U A.heap.size n 0 (fun i=>fs[i]?.getD 0*u):=by rw[hU,← hA];exact uj.made A n _
have lU:A.heap.size<U.heap.size:=by rw[hU,← hA];simp
obtain⟨G,hG⟩:∃ G,G=w.heap.size+1:=⟨_,rfl⟩
obtain⟨B,hB⟩:∃ B,B=w.heap.size:=⟨_,rfl⟩
have hGA:G=A.heap.size:=by omega
have I0:Hid (uj U G n 0 (fun i=>fs[i]?.getD 0*u)∧P4 U B s1 x1 y1 p1∧au U (.slice q n cap) fs∧aq U (.agg #[.bool s1,.int .u64 x1,.int .u64 y1,.pointer p1]) u∧G<U.heap.size∧But [] w U) :=
 ⟨by rw[hGA];exact rU,by rw[hB];exact cA.but bU (by simp),((ae HV).but bA).but bU,((ae HU).but bA).but bU,by rw[hGA];exact lU,bA.trans' bU⟩
have hGB:B<G:=by omega
have hwB:w.heap.size≤B:=by omega
clear bU rU lU bA sA cA hGA hA
go_enter func191,ntmps191
go_wp2
rw[← hU]
try rw[← hG]
rw[← hB]
clear hU hmk HU
have HB:=af hB
have HW:=af hwB
clear hB hG hwB
go_loopw [13] (fun i wr=>∃ k:Nat,k≤n∧i=.int .i64 (k:Int)∧Hid (uj wr G n k (fun i=>fs[i]?.getD 0*u)∧P4 wr B s1 x1 y1 p1∧au wr (.slice q n cap) fs∧aq wr (.agg #[.bool s1,.int .u64 x1,.int .u64 y1,.pointer p1]) u∧G<wr.heap.size∧But [] w wr)) (fun i _=>n-(intOf i).toNat)
case atStart=>exact⟨0,Nat.zero_le _,rfl,ae I0⟩
case round =>(
obtain⟨k,hk,rfl,HI⟩:=hrel
rename World=>wr
clear I0
by_cases hlt:k<n
·(
obtain⟨hrow,hbx,hfs,hfu,hG2,hb⟩:=ae HI
have hkr:k<fs.length:=by have:=ae HN;omega
rcases hfs.open with ⟨er,-⟩|⟨-,rb,roff,rcap2,er,-,-⟩
·rw[er] at hkr
 simp at hkr
simp only[Value.slice.injEq] at er
obtain⟨rfl,-,rfl⟩:=er
obtain⟨sr,xr,yr,pr,⟨r0,r1,r2,r3⟩,hfr⟩:=hfs.get k hlt
have lrk:Len (fs[k]?.getD 0) 1000000:=by rw[List.getElem?_eq_getElem hkr];exact lf _ (List.getElem_mem hkr)
obtain⟨b0,b1,b2,b3⟩:=hbx
have MU:=af (fun W (h:But [] wr W)=>zfy (j6 _ _ _ _ W (hfr.but h) (hfu.but h) lrk lu))
have BA:Hid (But [] wr (wr.alloc (.cells #[.bool sr,.int .u64 xr,.int .u64 yr,.pointer pr] 27))):=(But.refl _ _).alloc _
have lB:B<wr.heap.size:=ai b0
clear hfr lrk hrow hfs hfu hb
go_wp2_with fail
refine (ae MU _ (ae BA)).mono ?_
rintro e w3 ⟨s3,x3,y3,p3,rfl,hv3,hb3⟩
have B3:Hid (But [] wr w3):=(ae BA).trans' hb3
have HV3:=af hv3
have hrow3:=(ae HI).1.but (ae B3) hG2
have R3:=af hrow3
have pf:=hrow3.loose
obtain⟨k0,k1,k2,k3⟩:=hrow3.blank k (Nat.le_refl _) hlt
clear hv3 hb3 MU BA r0 r1 r2 r3 b0 b1 b2 b3 hrow3
go_wp2
have hS:=bp w3 G [.bool s3,.int .u64 x3,.int .u64 y3,.pointer p3] (k*4)
obtain⟨cb,hcb⟩:=(ae R3).bool (by omega)
have hc2:∀ g ∈ [G],∃ s,w3.cell? ⟨g,0,none⟩=some (.bool s):=fun g hg=>by simp at hg;subst hg;exact⟨_,hcb⟩
have lw:w.heap.size≤G:=by have:=ae HW;omega
refine⟨⟨k+1,by omega,by go_num,(ae R3).next hlt s3 x3 y3 p3 (ae HV3),((ae HI).2.1.but (ae B3) (by simp)).but hS (by simp;omega),(ae HV).behind ((ae HI).2.2.1.but (ae B3)) hS lw ⟨_,hcb⟩,((ae HI).2.2.2.1.but (ae B3)).beside hS hc2,Nat.lt_of_lt_of_le (Nat.lt_of_lt_of_le hG2 (ae B3).size) hS.size,((ae HI).2.2.2.2.2.trans' (ae B3)).trans hS (fun x hx=>by simp at hx;subst hx;exact .inr lw)⟩,by simp[intOf];omega⟩)
·obtain rfl:k=n:=by omega
 go_wp2
 go_ret
 exact⟨G,rfl,(ae HI).1,by have:=ae HW;omega,(ae HI).2.2.2.2.1,(ae HI).2.2.2.2.2⟩))
def qlo:Oper:=⟨some 34,.move (.tmp 5),45, "together.go:104",#[],none⟩
def qln:Oper:=⟨some 35,.move (.tmp 6),3, "together.go:104",#[],none⟩
def qlm:Oper:=⟨some 36,.move (.tmp 8),3, "together.go:104",#[],none⟩
def qlk:Oper:=⟨some 37,.binOp .add 3 (.tmp 35) (.tmp 36) 3,3, "together.go:104",#[⟨1,.data⟩,⟨2,.data⟩],none⟩
def qlj:Oper:=⟨some 38,.move (.tmp 5),45, "together.go:104",#[],none⟩
def qli:Oper:=⟨some 39,.move (.tmp 6),3, "together.go:104",#[],none⟩
def qlh:Oper:=⟨some 40,.move (.tmp 8),3, "together.go:104",#[],none⟩
def qlg:Oper:=⟨some 41,.binOp .add 3 (.tmp 39) (.tmp 40) 3,3, "together.go:104",#[⟨5,.data⟩,⟨6,.data⟩],none⟩
def qlf:Oper:=⟨some 42,.indexAddr 45 (.tmp 38) (.tmp 41),0, "together.go:104",#[⟨4,.data⟩,⟨7,.data⟩],none⟩
def qle:Oper:=⟨some 43,.load 27 (.tmp 42),27, "together.go:104",#[⟨8,.data⟩],none⟩
def qfc:Oper:=⟨some 44,.load 27 (.tmp 7),27, "together.go:104",#[],none⟩
def qfb:Oper:=⟨some 45,.load 27 (.tmp 9),27, "together.go:104",#[],none⟩
def qfa:Oper:=⟨some 46,.call { callee:=.value (.func 104),args:=#[.tmp 44,.tmp 45],argTypes:=#[27,27] },27, "together.go:104",#[⟨10,.data⟩,⟨11,.data⟩],none⟩
def qez:Oper:=⟨some 47,.call { callee:=.value (.func 115),args:=#[.tmp 43,.tmp 46],argTypes:=#[27,27] },27, "together.go:104",#[⟨9,.data⟩,⟨12,.data⟩,⟨12,.chain⟩],none⟩
def qey:Oper:=⟨some 48,.indexAddr 45 (.tmp 34) (.tmp 37),0, "together.go:104",#[⟨0,.data⟩,⟨3,.data⟩,⟨0,.phase⟩,⟨1,.phase⟩,⟨2,.phase⟩,⟨3,.phase⟩,⟨4,.phase⟩,⟨5,.phase⟩,⟨6,.phase⟩,⟨7,.phase⟩,⟨8,.phase⟩,⟨9,.phase⟩,⟨10,.phase⟩,⟨11,.phase⟩,⟨12,.phase⟩,⟨13,.phase⟩],none⟩
def qex:Oper:=⟨none,.store 27 (.tmp 48) (.tmp 47),0, "together.go:104",#[⟨14,.data⟩,⟨13,.data⟩,⟨13,.chain⟩,⟨0,.phase⟩,⟨1,.phase⟩,⟨2,.phase⟩,⟨3,.phase⟩,⟨4,.phase⟩,⟨5,.phase⟩,⟨6,.phase⟩,⟨7,.phase⟩,⟨8,.phase⟩,⟨9,.phase⟩,⟨10,.phase⟩,⟨11,.phase⟩,⟨12,.phase⟩,⟨13,.phase⟩],none⟩
def zad:Array Oper:=#[qlo,qln,qlm,qlk,qlj,qli,qlh,qlg,qlf,qle,qfc,qfb,qfa,qez,qey,qex]
def zii (i:Nat):Nat:=match i with
 | 0=>34
 | 1=>35
 | 2=>36
 | 3=>37
 | 4=>38
 | 5=>39
 | 6=>40
 | 7=>41
 | 8=>42
 | 9=>43
 | 10=>44
 | 11=>45
 | 12=>46
 | 13=>47
 | _=>48
def ztp (gb:Nat) (go:Nat) (N:Nat) (ia:Nat) (ka:Nat) (s1:Bool) (x1:Int) (y1:Int) (p1:Option Addr) (s2:Bool) (x2:Int) (y2:Int) (p2:Option Addr) (s3:Bool) (x3:Int) (y3:Int) (p3:Option Addr) (f1:Rat) (f2:Rat) (f3:Rat) (i:Nat) (w:World) (v:Value):Prop:=match i with
 | 0=>v=.slice (some ⟨gb,0,none⟩) N N
 | 1=>v=.int .i64 (ia:Int)
 | 2=>v=.int .i64 (ka:Int)
 | 3=>v=.int .i64 ((ia+ka:Nat):Int)
 | 4=>v=.slice (some ⟨gb,0,none⟩) N N
 | 5=>v=.int .i64 (ia:Int)
 | 6=>v=.int .i64 (ka:Int)
 | 7=>v=.int .i64 ((ia+ka:Nat):Int)
 | 8=>v=.pointer (some ⟨gb,go,none⟩)
 | 9=>v=.agg #[.bool s1,.int .u64 x1,.int .u64 y1,.pointer p1]
 | 10=>v=.agg #[.bool s2,.int .u64 x2,.int .u64 y2,.pointer p2]
 | 11=>v=.agg #[.bool s3,.int .u64 x3,.int .u64 y3,.pointer p3]
 | 12=>aq w v (f2*f3)
 | 13=>aq w v (f1+f2*f3)
 | _=>v=.pointer (some ⟨gb,go,none⟩)
theorem qav {gb:Nat} {go:Nat} {N:Nat} {ia:Nat} {ka:Nat} {s1:Bool} {x1:Int} {y1:Int} {p1:Option Addr} {s2:Bool} {x2:Int} {y2:Int} {p2:Option Addr} {s3:Bool} {x3:Int} {y3:Int} {p3:Option Addr} {f1:Rat} {f2:Rat} {f3:Rat} {i:Nat} {w w':World} {v:Value} (h:ztp gb go N ia ka s1 x1 y1 p1 s2 x2 y2 p2 s3 x3 y3 p3 f1 f2 f3 i w v) (hi:i<15) (hb:But [] w w'):ztp gb go N ia ka s1 x1 y1 p1 s2 x2 y2 p2 s3 x3 y3 p3 f1 f2 f3 i w' v:=by(
have:i=0∨i=1∨i=2∨i=3∨i=4∨i=5∨i=6∨i=7∨i=8∨i=9∨i=10∨i=11∨i=12∨i=13∨i=14:=by omega
rcases this with rfl|rfl|rfl|rfl|rfl|rfl|rfl|rfl|rfl|rfl|rfl|rfl|rfl|rfl|rfl
all_goals first | exact h | exact aq.but h hb | exact au.but h hb)
theorem qau:∀ i j,i<15→j<15→zii i=zii j→i=j:=fun i j hi hj=>(by decide:∀ i,i<15→∀ j,j<15→zii i=zii j→i=j) i hi j hj
theorem zmz (id:Nat) (Q:Exit→Act→World→Prop) (base:Act) (W0:World) (gb:Nat) (go:Nat) (N:Nat) (ia:Nat) (ka:Nat) (s1:Bool) (x1:Int) (y1:Int) (p1:Option Addr) (s2:Bool) (x2:Int) (y2:Int) (p2:Option Addr) (s3:Bool) (x3:Int) (y3:Int) (p3:Option Addr) (f1:Rat) (f2:Rat) (f3:Rat) (g7 g9:Nat) {sb:Bool} {xb yb:Int} {pb:Option Addr} (hs:48<base.tmps.size) (cb:P4o W0 gb go sb xb yb pb) (fzb:∀ j,W0.frozen? ⟨gb,j,none⟩=false) (e5:base.eval (.tmp 5)=.slice (some ⟨gb,0,none⟩) N N) (e6:base.eval (.tmp 6)=.int .i64 (ia:Int)) (e8:base.eval (.tmp 8)=.int .i64 (ka:Int)) (e7:base.eval (.tmp 7)=.pointer (some ⟨g7,0,none⟩)) (e9:base.eval (.tmp 9)=.pointer (some ⟨g9,0,none⟩))
  (hgo:go=(ia+ka)*4) (hN:ia+ka<N) (hN2:N<1000000) (hi1:ia≤1000000) (hk1:ka≤1000000) (c1:P4o W0 gb go s1 x1 y1 p1) (c2:P4 W0 g7 s2 x2 y2 p2) (c3:P4 W0 g9 s3 x3 y3 p3)
  (MU:∀ w,But [] W0 w→Calls prog 104 #[.agg #[.bool s2,.int .u64 x2,.int .u64 y2,.pointer p2],.agg #[.bool s3,.int .u64 x3,.int .u64 y3,.pointer p3]] w fun e w'=>∃ v,e=.returned v∧aq w' v (f2*f3)∧But [] w w')
  (AD:∀ w,But [] W0 w→∀ v,aq w v (f2*f3)→Calls prog 115 #[.agg #[.bool s1,.int .u64 x1,.int .u64 y1,.pointer p1],v] w fun e w'=>∃ v,e=.returned v∧aq w' v (f1+f2*f3)∧But [] w w')
  (hQ:∀ w1 v12 s' x' y' p',But [] W0 w1→aq w1 (.agg #[.bool s',.int .u64 x',.int .u64 y',.pointer p']) (f1+f2*f3)→Q .normal (bj base [(34,.slice (some ⟨gb,0,none⟩) N N),(35,.int .i64 (ia:Int)),(36,.int .i64 (ka:Int)),(37,.int .i64 ((ia+ka:Nat):Int)),(38,.slice (some ⟨gb,0,none⟩) N N),(39,.int .i64 (ia:Int)),(40,.int .i64 (ka:Int)),(41,.int .i64 ((ia+ka:Nat):Int)),(42,.pointer (some ⟨gb,go,none⟩)),(43,.agg #[.bool s1,.int .u64 x1,.int .u64 y1,.pointer p1]),(44,.agg #[.bool s2,.int .u64 x2,.int .u64 y2,.pointer p2]),(45,.agg #[.bool s3,.int .u64 x3,.int .u64 y3,.pointer p3]),(46,v12),(47,(.agg #[.bool s',.int .u64 x',.int .u64 y',.pointer p'])),(48,.pointer (some ⟨gb,go,none⟩))]) (w1.setCells gb go [.bool s',.int .u64 x',.int .u64 y',.pointer p'])) :
  (Code.region id zad true).wp prog Q base W0:=by(
have hdr:∀ {w},But [] W0.drew w→But [] W0 w:=fun h=>(But.refl _ _).drew.trans' h
have lgb:gb<W0.heap.size:=ai cb.1
have hT:∀ i,i<15→zii i<base.tmps.size:=fun i hi=>by
 have h:zii i≤48:=by revert i;decide
 omega
refine zbb (by kernel_rfl) (zco (by kernel_rfl)) (fun i o ho=>(zjh (ops:=zad) (by kernel_rfl) i o ho).1)
 (fun _ w=>But [] W0.drew w) (ztp gb go N ia ka s1 x1 y1 p1 s2 x2 y2 p2 s3 x3 y3 p3 f1 f2 f3) zii 15 rfl qau hT (But.refl _ _)
 (fun i hi=>?_) ?_ (fun a w=>∃ w1 v12 s' x' y' p',a=bj base [(34,.slice (some ⟨gb,0,none⟩) N N),(35,.int .i64 (ia:Int)),(36,.int .i64 (ka:Int)),(37,.int .i64 ((ia+ka:Nat):Int)),(38,.slice (some ⟨gb,0,none⟩) N N),(39,.int .i64 (ia:Int)),(40,.int .i64 (ka:Int)),(41,.int .i64 ((ia+ka:Nat):Int)),(42,.pointer (some ⟨gb,go,none⟩)),(43,.agg #[.bool s1,.int .u64 x1,.int .u64 y1,.pointer p1]),(44,.agg #[.bool s2,.int .u64 x2,.int .u64 y2,.pointer p2]),(45,.agg #[.bool s3,.int .u64 x3,.int .u64 y3,.pointer p3]),(46,v12),(47,(.agg #[.bool s',.int .u64 x',.int .u64 y',.pointer p'])),(48,.pointer (some ⟨gb,go,none⟩))]∧w=w1.setCells gb go [.bool s',.int .u64 x',.int .u64 y',.pointer p']∧But [] W0 w1∧aq w1 (.agg #[.bool s',.int .u64 x',.int .u64 y',.pointer p']) (f1+f2*f3)) ?_ ?_
·exact zga (ops:=zad) (ps:=[(15,0),(15,1),(15,2),(15,3),(15,4),(15,5),(15,6),(15,7),(15,8),(15,9),(15,10),(15,11),(15,12),(15,13),(15,14)]) (by kernel_rfl) 15 i (by
  have:i=0∨i=1∨i=2∨i=3∨i=4∨i=5∨i=6∨i=7∨i=8∨i=9∨i=10∨i=11∨i=12∨i=13∨i=14:=by omega
  rcases this with rfl|rfl|rfl|rfl|rfl|rfl|rfl|rfl|rfl|rfl|rfl|rfl|rfl|rfl|rfl <;> simp)
·(
intro dn i o a w K hi ho hdi hH he hdep hK
have hD:=fun j hj=>(zcr (ps:=[(3,1),(3,2),(7,5),(7,6),(8,4),(8,7),(9,8),(12,10),(12,11),(13,9),(13,12),(14,0),(14,1),(14,2),(14,3),(14,4),(14,5),(14,6),(14,7),(14,8),(14,9),(14,10),(14,11),(14,12),(14,13)]) (by kernel_rfl) ho (fun j=>dn j=true∧ztp gb go N ia ka s1 x1 y1 p1 s2 x2 y2 p2 s3 x3 y3 p3 f1 f2 f3 j w (a.eval (.tmp (zii j)))) hdep j hj).2
have hk:∀ v w',But [] w w'→ztp gb go N ia ka s1 x1 y1 p1 s2 x2 y2 p2 s3 x3 y3 p3 f1 f2 f3 i w' v→K (a.put (some (zii i)) v) w':=fun v w' hb hv=>hK v w' (hH.trans' hb) (fun j hj _ u hu=>qav hu hj hb) hv
have e5':=(he 5 (fun j hj e=>absurd e.symm (by revert j;decide))).trans e5
have e6':=(he 6 (fun j hj e=>absurd e.symm (by revert j;decide))).trans e6
have e8':=(he 8 (fun j hj e=>absurd e.symm (by revert j;decide))).trans e8
have e7':=(he 7 (fun j hj e=>absurd e.symm (by revert j;decide))).trans e7
have e9':=(he 9 (fun j hj e=>absurd e.symm (by revert j;decide))).trans e9
have:i=0∨i=1∨i=2∨i=3∨i=4∨i=5∨i=6∨i=7∨i=8∨i=9∨i=10∨i=11∨i=12∨i=13∨i=14:=by omega
rcases this with rfl|rfl|rfl|rfl|rfl|rfl|rfl|rfl|rfl|rfl|rfl|rfl|rfl|rfl|rfl
·obtain rfl:=so (show zad[0]? =some qlo from rfl) ho
 exact al (bt a w _ _ _ _ _ _ _ e5') (hk _ _ (But.refl _ _) rfl)
·obtain rfl:=so (show zad[1]? =some qln from rfl) ho
 exact al (bt a w _ _ _ _ _ _ _ e6') (hk _ _ (But.refl _ _) rfl)
·obtain rfl:=so (show zad[2]? =some qlm from rfl) ho
 exact al (bt a w _ _ _ _ _ _ _ e8') (hk _ _ (But.refl _ _) rfl)
·obtain rfl:=so (show zad[3]? =some qlk from rfl) ho
 exact al (zph a w _ _ _ _ _ _ _ ia ka hi1 hk1 (hD 1 (by simp)) (hD 2 (by simp))) (hk _ _ (But.refl _ _) rfl)
·obtain rfl:=so (show zad[4]? =some qlj from rfl) ho
 exact al (bt a w _ _ _ _ _ _ _ e5') (hk _ _ (But.refl _ _) rfl)
·obtain rfl:=so (show zad[5]? =some qli from rfl) ho
 exact al (bt a w _ _ _ _ _ _ _ e6') (hk _ _ (But.refl _ _) rfl)
·obtain rfl:=so (show zad[6]? =some qlh from rfl) ho
 exact al (bt a w _ _ _ _ _ _ _ e8') (hk _ _ (But.refl _ _) rfl)
·obtain rfl:=so (show zad[7]? =some qlg from rfl) ho
 exact al (zph a w _ _ _ _ _ _ _ ia ka hi1 hk1 (hD 5 (by simp)) (hD 6 (by simp))) (hk _ _ (But.refl _ _) rfl)
·obtain rfl:=so (show zad[8]? =some qlf from rfl) ho
 refine al (zhf a w _ _ _ _ _ _ _ gb 0 N N (ia+ka) hN hN2 (hD 4 (by simp)) (hD 7 (by simp))) (hk _ _ (But.refl _ _) ?_)
 show Value.pointer _=Value.pointer _
 rw[hgo,Nat.zero_add]
·obtain rfl:=so (show zad[9]? =some qle from rfl) ho
 exact al (aw a w _ _ _ _ _ _ gb go _ _ _ _ (hD 8 (by simp)) (c1.but (hdr hH) (by simp))) (hk _ _ (But.refl _ _) rfl)
·obtain rfl:=so (show zad[10]? =some qfc from rfl) ho
 exact al (aw a w _ _ _ _ _ _ g7 0 _ _ _ _ e7' (c2.but (hdr hH) (by simp))) (hk _ _ (But.refl _ _) rfl)
·obtain rfl:=so (show zad[11]? =some qfb from rfl) ho
 exact al (aw a w _ _ _ _ _ _ g9 0 _ _ _ _ e9' (c3.but (hdr hH) (by simp))) (hk _ _ (But.refl _ _) rfl)
·obtain rfl:=so (show zad[12]? =some qfa from rfl) ho
 exact ay (zfk a w _ _ _ _ _ _ _ _ _ (hD 10 (by simp)) (hD 11 (by simp))) (R:=fun w' v=>aq w' v (f2*f3)∧But [] w w') (MU w (hdr hH)) (fun v w' hv=>hk v w' hv.2 hv.1)
·obtain rfl:=so (show zad[13]? =some qez from rfl) ho
 exact ay (zms a w _ _ _ _ _ _ _ _ _ (hD 9 (by simp)) rfl) (R:=fun w' v=>aq w' v (f1+f2*f3)∧But [] w w') (AD w (hdr hH) _ (hD 12 (by simp))) (fun v w' hv=>hk v w' hv.2 hv.1)
·obtain rfl:=so (show zad[14]? =some qey from rfl) ho
 refine al (zhf a w _ _ _ _ _ _ _ gb 0 N N (ia+ka) hN hN2 (hD 0 (by simp)) (hD 3 (by simp))) (hk _ _ (But.refl _ _) ?_)
 show Value.pointer _=Value.pointer _
 rw[hgo,Nat.zero_add])
·(
intro dn o a w K ho hall h hK
obtain rfl:=so (show zad[15]? =some qex from rfl) ho
have eb':a.eval (.tmp 48)=.pointer (some ⟨gb,go,none⟩):=h.has 14 (by omega) (hall 14 (by omega))
have cl:aq w (a.eval (.tmp 47)) (f1+f2*f3):=h.has 13 (by omega) (hall 13 (by omega))
have cl':=cl
obtain⟨x',y',p',ev,-⟩:=cl.agg
rw[ev] at cl'
have ea:=h.puts hT (fun i=>match i with
 | 0=>.slice (some ⟨gb,0,none⟩) N N
 | 1=>.int .i64 (ia:Int)
 | 2=>.int .i64 (ka:Int)
 | 3=>.int .i64 ((ia+ka:Nat):Int)
 | 4=>.slice (some ⟨gb,0,none⟩) N N
 | 5=>.int .i64 (ia:Int)
 | 6=>.int .i64 (ka:Int)
 | 7=>.int .i64 ((ia+ka:Nat):Int)
 | 8=>.pointer (some ⟨gb,go,none⟩)
 | 9=>.agg #[.bool s1,.int .u64 x1,.int .u64 y1,.pointer p1]
 | 10=>.agg #[.bool s2,.int .u64 x2,.int .u64 y2,.pointer p2]
 | 11=>.agg #[.bool s3,.int .u64 x3,.int .u64 y3,.pointer p3]
 | 12=>a.eval (.tmp 46)
 | 13=>.agg #[.bool (decide ((f1+f2*f3).num<0)),.int .u64 x',.int .u64 y',.pointer p']
 | _=>.pointer (some ⟨gb,go,none⟩)) (fun i hi=>by
 have hc:=h.has i hi (hall i hi)
 have:i=0∨i=1∨i=2∨i=3∨i=4∨i=5∨i=6∨i=7∨i=8∨i=9∨i=10∨i=11∨i=12∨i=13∨i=14:=by omega
 rcases this with rfl|rfl|rfl|rfl|rfl|rfl|rfl|rfl|rfl|rfl|rfl|rfl|rfl|rfl|rfl
 all_goals first | exact ev | exact hc|rfl)
exact zal (zko a w _ _ _ _ _ gb go _ x' y' p' eb' ev (cb.but (hdr h.mem) (by simp)) (fun j=>((hdr h.mem).frozen (p:=⟨gb,j,none⟩) lgb (by simp)).trans (fzb j))) (hK _ _ ⟨w,a.eval (.tmp 46),_,x',y',p',ea,rfl,hdr h.mem,cl'⟩))
·rintro a w ⟨w1,v12,s',x',y',p',rfl,rfl,h1,h2⟩
 exact hQ  w1 v12 s' x' y' p' h1 h2)
structure jq (w:World) (g n:Nat) (S:Nat→Prop) (F:Nat→Rat):Prop where
 told:∀ i,i<n→S i→∃ b,w.cell? ⟨g,i,none⟩=some (.pointer (some ⟨b,0,none⟩))∧zo w b (F i)
 cell:∀ i,i<n→∃ q,w.cell? ⟨g,i,none⟩=some (.pointer q)
 loose:∀ j,w.frozen? ⟨g,j,none⟩=false
 pos:0<n
theorem jq.but {w w':World} {g n:Nat} {S:Nat→Prop} {F:Nat→Rat} (h:jq w g n S F) (hb:But [] w w'):jq w' g n S F :=
 ⟨fun i hi hs=>by
  obtain⟨b,h1,h2⟩:=h.told i hi hs
  exact⟨b,hb.ag h1 (by simp),h2.but hb⟩,fun i hi=>(h.cell i hi).elim fun q hq=>⟨q,hb.ag hq (by simp)⟩,fun j=>by
  obtain⟨q,hq⟩:=h.cell 0 h.pos
  exact (hb.frozen (p:=⟨g,j,none⟩) (show g<_ from ai hq) (by simp)).trans (h.loose j),h.pos⟩
theorem jq.mono {w:World} {g n:Nat} {S S':Nat→Prop} {F F':Nat→Rat} (h:jq w g n S F) (hs:∀ i,i<n→S' i→S i∧F i=F' i):jq w g n S' F' :=
 ⟨fun i hi h'=>by
  obtain⟨h1,h2⟩:=hs i hi h'
  obtain⟨b,h3,h4⟩:=h.told i hi h1
  exact⟨b,h3,by rw[← h2];exact h4⟩,h.cell,h.loose,h.pos⟩
theorem zbi (w:World) (g i:Nat) (v:Value):But [g] w (w.setCell ⟨g,i,none⟩ v):=(But.refl [g] w).setCell (by simp) v
theorem jq.put {w:World} {g n i b:Nat} {S:Nat→Prop} {F:Nat→Rat} {f:Rat} (h:jq w g n S F) (hi:i<n) (hb:zo w b f):jq (w.setCell ⟨g,i,none⟩ (.pointer (some ⟨b,0,none⟩))) g n (fun j=>j=i∨S j) (fun j=>if j=i then f else F j):=by(
have hB:=zbi w g i (.pointer (some ⟨b,0,none⟩))
obtain⟨q0,hq0⟩:=h.cell 0 h.pos
obtain⟨qi,hqi⟩:=h.cell i hi
have at_:(w.setCell ⟨g,i,none⟩ (.pointer (some ⟨b,0,none⟩))).cell? ⟨g,i,none⟩=some (.pointer (some ⟨b,0,none⟩)):=by
 rw[zhe]
 have e:=World.cell?_setCells_in g [Value.pointer (some ⟨b,0,none⟩)] i w (fun j hj=>by
  have:j=0:=by simpa using hj
  subst this
  rw[Nat.add_zero,hqi];rfl) 0 (by simp)
 rw[Nat.add_zero] at e
 simpa using e
have off_:∀ j,j≠i→(w.setCell ⟨g,i,none⟩ (.pointer (some ⟨b,0,none⟩))).cell? ⟨g,j,none⟩=w.cell? ⟨g,j,none⟩:=fun j hj=>by
 rw[zhe]
 exact World.cell?_setCells_out g _ _ _ _ (fun _ _=>by
  rcases Nat.lt_or_ge j i with h | h
  ·exact .inl h
  ·exact .inr (by simp;omega))
refine⟨fun j hj hs=>?_,fun j hj=>?_,fun j=>by rw[zhe,World.frozen?_setCells];exact h.loose j,h.pos⟩
·(
by_cases e:j=i
·subst e
 exact⟨b,at_,by rw[if_pos rfl];exact hb.zpp hB hq0 (zjw _)⟩
·rcases hs with h' | h'
 ·exact absurd h' e
 ·obtain⟨b',h1,h2⟩:=h.told j hj h'
  exact⟨b',by rw[off_ j e];exact h1,by rw[if_neg e];exact h2.zpp hB hq0 (zjw _)⟩)
·by_cases e:j=i
 ·subst e;exact⟨_,at_⟩
 ·rw[off_ j e];exact h.cell j hj)
theorem jq.made (w:World) (n:Nat) (hn:0<n) (F:Nat→Rat) (t:TypeId):jq (w.alloc (.cells (madeCells #[.pointer none] n) t)) w.heap.size n (fun _=>False) F :=
 ⟨fun _ _ h=>h.elim,fun i hi=>⟨none,by
  rw[World.cell?_alloc_new]
  rw[qbj _ n i hi]⟩,fun j=>by simp,hn⟩
theorem zoj (wx:World) (n:Nat) (h:n<1000000):(Instr.makeSlice 42 (.int .i64 (n:Int)) (.int .i64 (n:Int))).run prog wx=.ok (.slice (some ⟨wx.heap.size,0,none⟩) n n) (wx.alloc (.cells (madeCells #[.pointer none] n) 37)):=by(
obtain⟨ti,hi,hz,hs,hbt⟩:=zit
have hmk:=run_make (P:=prog) wx 42 37 ti _ underlying42 hi hz .i64 .i64 (n:Int) (n:Int) (by omega) (by omega) (by rw[hbt];omega) (by omega)
rw[hs,Int.toNat_natCast,Nat.mul_one] at hmk
exact hmk)
theorem zlr (a:Act) (w:World) (d t1 t2:Nat) (u:TypeId) (ps:String) (ed:Array Edge) (gd:Option (Nat × Bool)) (b off n c k o':Nat) (ho:off+k=o') (hk:k<n) (h1:a.eval (.tmp t1)=.slice (some ⟨b,off,none⟩) n c) (h2:a.eval (.tmp t2)=.int .i64 (k:Int)) :
  (execOp a.eval { dst:=some d,op:=Op.indexAddr 42 (.tmp t1) (.tmp t2),type:=u,pos:=ps,after:=ed,guard:=gd }).run prog w=.ok (.value (.pointer (some ⟨b,o',none⟩))) w:=by(
subst ho
unfold execOp
simp only[h1,h2]
go_simp)
theorem zqy (a:Act) (w:World) (d t:Nat) (u:TypeId) (ps:String) (ed:Array Edge) (gd:Option (Nat × Bool)) (b o:Nat) (v:Value) (h1:a.eval (.tmp t)=.pointer (some ⟨b,o,none⟩)) (hc:w.cell? ⟨b,o,none⟩=some v) :
  (execOp a.eval { dst:=some d,op:=Op.load 37 (.tmp t),type:=u,pos:=ps,after:=ed,guard:=gd }).run prog w=.ok (.value v) w:=by(
unfold execOp
simp only[h1]
go_simp)
theorem qim (a:Act) (w:World) (d t0 t1:Nat) (u:TypeId) (ps:String) (ed:Array Edge) (gd:Option (Nat × Bool)) (z0 z1:Value) (h0:a.eval (.tmp t0)=z0) (h1:a.eval (.tmp t1)=z1) :
  (execOp a.eval { dst:=some d,op:=Op.call { callee:=Callee.value (Operand.func 91),args:=#[Operand.tmp t0,Operand.tmp t1],argTypes:=#[37,37] },type:=u,pos:=ps,after:=ed,guard:=gd }).run prog w=.ok (.enter 91 #[z0,z1]) w:=by(
unfold execOp
go_simp
rw[← h0,← h1]
simp[Act.eval])
theorem qil (a:Act) (w:World) (d t0 t1:Nat) (u:TypeId) (ps:String) (ed:Array Edge) (gd:Option (Nat × Bool)) (z0 z1:Value) (h0:a.eval (.tmp t0)=z0) (h1:a.eval (.tmp t1)=z1) :
  (execOp a.eval { dst:=some d,op:=Op.call { callee:=Callee.value (Operand.func 58),args:=#[Operand.tmp t0,Operand.tmp t1],argTypes:=#[37,37] },type:=u,pos:=ps,after:=ed,guard:=gd }).run prog w=.ok (.enter 58 #[z0,z1]) w:=by(
unfold execOp
go_simp
rw[← h0,← h1]
simp[Act.eval])
theorem qik (a:Act) (w:World) (t1 t2:Nat) (u:TypeId) (ps:String) (ed:Array Edge) (b o:Nat) (q:Option Addr) (u0:Value) (h1:a.eval (.tmp t1)=.pointer (some ⟨b,o,none⟩)) (h2:a.eval (.tmp t2)=.pointer q) (hc:w.cell? ⟨b,o,none⟩=some u0) (fz:w.frozen? ⟨b,o,none⟩=false) :
  (execOp a.eval { dst:=none,op:=Op.store 37 (.tmp t1) (.tmp t2),type:=u,pos:=ps,after:=ed,guard:=none }).run prog w=.ok .skip (w.setCell ⟨b,o,none⟩ (.pointer q)):=by(
unfold execOp
simp only[h1,h2]
go_simp)
def qkn:Oper:=⟨some 45,.move (.tmp 5),42, "claims.go:93",#[],none⟩
def qkm:Oper:=⟨some 46,.move (.tmp 6),3, "claims.go:93",#[],none⟩
def qkl:Oper:=⟨some 47,.move (.tmp 5),42, "claims.go:93",#[],none⟩
def qkk:Oper:=⟨some 48,.move (.tmp 6),3, "claims.go:93",#[],none⟩
def qkj:Oper:=⟨some 49,.indexAddr 42 (.tmp 47) (.tmp 48),0, "claims.go:93",#[⟨2,.data⟩,⟨3,.data⟩],none⟩
def qki:Oper:=⟨some 50,.load 37 (.tmp 49),37, "claims.go:93",#[⟨4,.data⟩],none⟩
def qkh:Oper:=⟨some 51,.move (.tmp 0),42, "claims.go:93",#[],none⟩
def qkg:Oper:=⟨some 52,.move (.tmp 7),3, "claims.go:93",#[],none⟩
def qkf:Oper:=⟨some 53,.indexAddr 42 (.tmp 51) (.tmp 52),0, "claims.go:93",#[⟨6,.data⟩,⟨7,.data⟩],none⟩
def qke:Oper:=⟨some 54,.load 37 (.tmp 53),37, "claims.go:93",#[⟨8,.data⟩],none⟩
def qes:Oper:=⟨some 55,.move (.tmp 1),42, "claims.go:93",#[],none⟩
def qer:Oper:=⟨some 56,.move (.tmp 8),3, "claims.go:93",#[],none⟩
def qeq:Oper:=⟨some 57,.indexAddr 42 (.tmp 55) (.tmp 56),0, "claims.go:93",#[⟨10,.data⟩,⟨11,.data⟩],none⟩
def qep:Oper:=⟨some 58,.load 37 (.tmp 57),37, "claims.go:93",#[⟨12,.data⟩],none⟩
def qeo:Oper:=⟨some 59,.call { callee:=.value (.func 91),args:=#[.tmp 54,.tmp 58],argTypes:=#[37,37] },37, "claims.go:93",#[⟨9,.data⟩,⟨13,.data⟩],none⟩
def qen:Oper:=⟨some 60,.call { callee:=.value (.func 58),args:=#[.tmp 50,.tmp 59],argTypes:=#[37,37] },37, "claims.go:93",#[⟨5,.data⟩,⟨14,.data⟩,⟨14,.chain⟩],none⟩
def qem:Oper:=⟨some 61,.indexAddr 42 (.tmp 45) (.tmp 46),0, "claims.go:93",#[⟨0,.data⟩,⟨1,.data⟩,⟨0,.phase⟩,⟨1,.phase⟩,⟨2,.phase⟩,⟨3,.phase⟩,⟨4,.phase⟩,⟨5,.phase⟩,⟨6,.phase⟩,⟨7,.phase⟩,⟨8,.phase⟩,⟨9,.phase⟩,⟨10,.phase⟩,⟨11,.phase⟩,⟨12,.phase⟩,⟨13,.phase⟩,⟨14,.phase⟩,⟨15,.phase⟩],none⟩
def qel:Oper:=⟨none,.store 37 (.tmp 61) (.tmp 60),0, "claims.go:93",#[⟨16,.data⟩,⟨15,.data⟩,⟨15,.chain⟩,⟨0,.phase⟩,⟨1,.phase⟩,⟨2,.phase⟩,⟨3,.phase⟩,⟨4,.phase⟩,⟨5,.phase⟩,⟨6,.phase⟩,⟨7,.phase⟩,⟨8,.phase⟩,⟨9,.phase⟩,⟨10,.phase⟩,⟨11,.phase⟩,⟨12,.phase⟩,⟨13,.phase⟩,⟨14,.phase⟩,⟨15,.phase⟩],none⟩
def tu:Array Oper:=#[qkn,qkm,qkl,qkk,qkj,qki,qkh,qkg,qkf,qke,qes,qer,qeq,qep,qeo,qen,qem,qel]
structure zfs (W0:World) (g5:Nat) (n:Nat) (s:Nat) (ba:Nat) (oa:Nat) (na:Nat) (ca:Nat) (x:Nat) (bb:Nat) (ob:Nat) (nb:Nat) (cb:Nat) (y:Nat) (bo:Nat) (bx:Nat) (bz:Nat) (r1:Rat) (r2:Rat) (p:Nat) (q:Nat) (b14:Bool) (b15:Bool) (w:World):Prop where
 mem:But [] W0 w
 f14:b14=true→zo w p r1
 f15:b15=true→zo w q r2
theorem zfs.but {W0:World} {g5:Nat} {n:Nat} {s:Nat} {ba:Nat} {oa:Nat} {na:Nat} {ca:Nat} {x:Nat} {bb:Nat} {ob:Nat} {nb:Nat} {cb:Nat} {y:Nat} {bo:Nat} {bx:Nat} {bz:Nat} {r1:Rat} {r2:Rat} {p:Nat} {q:Nat} {b14 b15:Bool} {w w':World} (h:zfs W0 g5 n s ba oa na ca x bb ob nb cb y bo bx bz r1 r2 p q b14 b15 w) (hb:But [] w w'):zfs W0 g5 n s ba oa na ca x bb ob nb cb y bo bx bz r1 r2 p q b14 b15 w' :=
 { mem:=h.mem.trans' hb,f14:=fun e=>(h.f14 e).but hb,f15:=fun e=>(h.f15 e).but hb }
theorem zfs.s14 {W0:World} {g5:Nat} {n:Nat} {s:Nat} {ba:Nat} {oa:Nat} {na:Nat} {ca:Nat} {x:Nat} {bb:Nat} {ob:Nat} {nb:Nat} {cb:Nat} {y:Nat} {bo:Nat} {bx:Nat} {bz:Nat} {r1:Rat} {r2:Rat} {p:Nat} {q:Nat} {b14 b15:Bool} {w:World} (h:zfs W0 g5 n s ba oa na ca x bb ob nb cb y bo bx bz r1 r2 p q b14 b15 w) (p':Nat) (hf:zo w p' r1):zfs W0 g5 n s ba oa na ca x bb ob nb cb y bo bx bz r1 r2 p' q true b15 w :=
 { mem:=h.mem,f14:=fun _=>hf,f15:=h.f15 }
theorem zfs.s15 {W0:World} {g5:Nat} {n:Nat} {s:Nat} {ba:Nat} {oa:Nat} {na:Nat} {ca:Nat} {x:Nat} {bb:Nat} {ob:Nat} {nb:Nat} {cb:Nat} {y:Nat} {bo:Nat} {bx:Nat} {bz:Nat} {r1:Rat} {r2:Rat} {p:Nat} {q:Nat} {b14 b15:Bool} {w:World} (h:zfs W0 g5 n s ba oa na ca x bb ob nb cb y bo bx bz r1 r2 p q b14 b15 w) (q':Nat) (hf:zo w q' r2):zfs W0 g5 n s ba oa na ca x bb ob nb cb y bo bx bz r1 r2 p q' b14 true w :=
 { mem:=h.mem,f14:=h.f14,f15:=fun _=>hf }
def zdi (i:Nat):Nat:=match i with
 | 0=>45
 | 1=>46
 | 2=>47
 | 3=>48
 | 4=>49
 | 5=>50
 | 6=>51
 | 7=>52
 | 8=>53
 | 9=>54
 | 10=>55
 | 11=>56
 | 12=>57
 | 13=>58
 | 14=>59
 | 15=>60
 | 16=>61
 | _=>45
def znf (i:Nat):Bool:=match i with
 | 17=>false
 | _=>true
def qkd (g5:Nat) (n:Nat) (s:Nat) (ba:Nat) (oa:Nat) (na:Nat) (ca:Nat) (x:Nat) (bb:Nat) (ob:Nat) (nb:Nat) (cb:Nat) (y:Nat) (bo:Nat) (bx:Nat) (bz:Nat) (r1:Rat) (r2:Rat) (p:Nat) (q:Nat) (i:Nat):Value:=match i with
 | 0=>.slice (some ⟨g5,0,none⟩) n n
 | 1=>.int .i64 (s:Int)
 | 2=>.slice (some ⟨g5,0,none⟩) n n
 | 3=>.int .i64 (s:Int)
 | 4=>.pointer (some ⟨g5,s,none⟩)
 | 5=>.pointer (some ⟨bo,0,none⟩)
 | 6=>.slice (some ⟨ba,oa,none⟩) na ca
 | 7=>.int .i64 (x:Int)
 | 8=>.pointer (some ⟨ba,oa+x,none⟩)
 | 9=>.pointer (some ⟨bx,0,none⟩)
 | 10=>.slice (some ⟨bb,ob,none⟩) nb cb
 | 11=>.int .i64 (y:Int)
 | 12=>.pointer (some ⟨bb,ob+y,none⟩)
 | 13=>.pointer (some ⟨bz,0,none⟩)
 | 14=>.pointer (some ⟨p,0,none⟩)
 | 15=>.pointer (some ⟨q,0,none⟩)
 | 16=>.pointer (some ⟨g5,s,none⟩)
 | _=>undef
theorem zea:zev tu [(4,2),(4,3),(5,4),(8,6),(8,7),(9,8),(12,10),(12,11),(13,12),(14,9),(14,13),(15,5),(15,14),(16,0),(16,1),(16,2),(16,3),(16,4),(16,5),(16,6),(16,7),(16,8),(16,9),(16,10),(16,11),(16,12),(16,13),(16,14),(16,15),(17,0),(17,1),(17,2),(17,3),(17,4),(17,5),(17,6),(17,7),(17,8),(17,9),(17,10),(17,11),(17,12),(17,13),(17,14),(17,15),(17,16)]=true:=by kernel_rfl
theorem qap:∀ i j,i<18→j<18→znf i=true→znf j=true→zdi i=zdi j→i=j:=fun i j hi hj=>(by decide:∀ i,i<18→∀ j,j<18→znf i=true→znf j=true→zdi i=zdi j→i=j) i hi j hj
theorem zhs (id:Nat) (Q:Exit→Act→World→Prop) (base:Act) (W0:World) (g5:Nat) (n:Nat) (s:Nat) (ba:Nat) (oa:Nat) (na:Nat) (ca:Nat) (x:Nat) (bb:Nat) (ob:Nat) (nb:Nat) (cb:Nat) (y:Nat) (bo:Nat) (bx:Nat) (bz:Nat) (r1:Rat) (r2:Rat) (hs:61<base.tmps.size) (e5:base.eval (.tmp 5)=.slice (some ⟨g5,0,none⟩) n n) (e6:base.eval (.tmp 6)=.int .i64 (s:Int)) (e0:base.eval (.tmp 0)=.slice (some ⟨ba,oa,none⟩) na ca) (e7:base.eval (.tmp 7)=.int .i64 (x:Int)) (e1:base.eval (.tmp 1)=.slice (some ⟨bb,ob,none⟩) nb cb) (e8:base.eval (.tmp 8)=.int .i64 (y:Int))
  (hs':s<n) (hx:x<na) (hy:y<nb) (co:W0.cell? ⟨g5,s,none⟩=some (.pointer (some ⟨bo,0,none⟩))) (cx:W0.cell? ⟨ba,oa+x,none⟩=some (.pointer (some ⟨bx,0,none⟩))) (cy:W0.cell? ⟨bb,ob+y,none⟩=some (.pointer (some ⟨bz,0,none⟩))) (fz:W0.frozen? ⟨g5,s,none⟩=false) (MU:∀ w,But [] W0 w→Calls prog 91 #[.pointer (some ⟨bx,0,none⟩),.pointer (some ⟨bz,0,none⟩)] w fun e w'=>∃ b,e=.returned (.pointer (some ⟨b,0,none⟩))∧zo w' b r1∧But [] w w') (AD:∀ w x,But [] W0 w→zo w x r1→Calls prog 58 #[.pointer (some ⟨bo,0,none⟩),.pointer (some ⟨x,0,none⟩)] w fun e w'=>∃ b,e=.returned (.pointer (some ⟨b,0,none⟩))∧zo w' b r2∧But [] w w')
  (hQ:∀ (p:Nat) (q:Nat) w1,zfs W0 g5 n s ba oa na ca x bb ob nb cb y bo bx bz r1 r2 p q true true w1→Q .normal (bj base [(45,.slice (some ⟨g5,0,none⟩) n n),(46,.int .i64 (s:Int)),(47,.slice (some ⟨g5,0,none⟩) n n),(48,.int .i64 (s:Int)),(49,.pointer (some ⟨g5,s,none⟩)),(50,.pointer (some ⟨bo,0,none⟩)),(51,.slice (some ⟨ba,oa,none⟩) na ca),(52,.int .i64 (x:Int)),(53,.pointer (some ⟨ba,oa+x,none⟩)),(54,.pointer (some ⟨bx,0,none⟩)),(55,.slice (some ⟨bb,ob,none⟩) nb cb),(56,.int .i64 (y:Int)),(57,.pointer (some ⟨bb,ob+y,none⟩)),(58,.pointer (some ⟨bz,0,none⟩)),(59,.pointer (some ⟨p,0,none⟩)),(60,.pointer (some ⟨q,0,none⟩)),(61,.pointer (some ⟨g5,s,none⟩))]) (w1.setCell ⟨g5,s,none⟩ (.pointer (some ⟨q,0,none⟩)))) :
  (Code.region id tu true).wp prog Q base W0:=by(
have hT:∀ i,i<18→znf i=true→zdi i<base.tmps.size:=fun i hi _=>by
 have h:zdi i≤61:=by revert i;decide
 omega
refine zmu (by kernel_rfl) (zco (by kernel_rfl)) (zmb (by kernel_rfl)) (fun (N:(Nat) × (Nat)) d w=>∃ w1,zfs W0 g5 n s ba oa na ca x bb ob nb cb y bo bx bz r1 r2 N.1 N.2 (d 14) (d 15) w1∧(d 17=false→w=w1)∧(d 17=true→w=(w1.setCell ⟨g5,s,none⟩ (.pointer (some ⟨N.2,0,none⟩))))) (fun N=>qkd g5 n s ba oa na ca x bb ob nb cb y bo bx bz r1 r2 N.1 N.2) zdi znf 18 (by kernel_rfl) qap hT (0,0) ⟨_,{ mem:=(But.refl _ _).drew,f14:=fun h=>by simp at h,f15:=fun h=>by simp at h },fun _=>rfl,fun h=>by simp at h⟩ ?_ ?_
·(
intro N d i o a w K hi ho hdi hcl hH he hdep hK
have hD:=zrt zea ho (fun j=>d j=true∧(znf j=true→a.eval (.tmp (zdi j))=qkd g5 n s ba oa na ca x bb ob nb cb y bo bx bz r1 r2 N.1 N.2 j)) hdep
have e5':=(he 5 (fun j hj _ _=>(by decide:∀ j,j<18→(5:Nat)≠zdi j) j hj)).trans e5
have e6':=(he 6 (fun j hj _ _=>(by decide:∀ j,j<18→(6:Nat)≠zdi j) j hj)).trans e6
have e0':=(he 0 (fun j hj _ _=>(by decide:∀ j,j<18→(0:Nat)≠zdi j) j hj)).trans e0
have e7':=(he 7 (fun j hj _ _=>(by decide:∀ j,j<18→(7:Nat)≠zdi j) j hj)).trans e7
have e1':=(he 1 (fun j hj _ _=>(by decide:∀ j,j<18→(1:Nat)≠zdi j) j hj)).trans e1
have e8':=(he 8 (fun j hj _ _=>(by decide:∀ j,j<18→(8:Nat)≠zdi j) j hj)).trans e8
have:i=0∨i=1∨i=2∨i=3∨i=4∨i=5∨i=6∨i=7∨i=8∨i=9∨i=10∨i=11∨i=12∨i=13∨i=14∨i=15∨i=16∨i=17:=by omega
rcases this with rfl|rfl|rfl|rfl|rfl|rfl|rfl|rfl|rfl|rfl|rfl|rfl|rfl|rfl|rfl|rfl|rfl|rfl
·obtain rfl:=so (show tu[0]? =some qkn from rfl) ho
 exact al (bt a w _ _ _ _ _ _ _ e5') (hK N _ _ (fun _=>rfl) (fun _ _ _ _=>rfl) hH)
·obtain rfl:=so (show tu[1]? =some qkm from rfl) ho
 exact al (bt a w _ _ _ _ _ _ _ e6') (hK N _ _ (fun _=>rfl) (fun _ _ _ _=>rfl) hH)
·obtain rfl:=so (show tu[2]? =some qkl from rfl) ho
 exact al (bt a w _ _ _ _ _ _ _ e5') (hK N _ _ (fun _=>rfl) (fun _ _ _ _=>rfl) hH)
·obtain rfl:=so (show tu[3]? =some qkk from rfl) ho
 exact al (bt a w _ _ _ _ _ _ _ e6') (hK N _ _ (fun _=>rfl) (fun _ _ _ _=>rfl) hH)
·obtain rfl:=so (show tu[4]? =some qkj from rfl) ho
 exact al (zlr a w _ _ _ _ _ _ _ g5 (0) (n) (n) (s) (s) (by omega) hs' ((hD 2 (by simp)).2 rfl) ((hD 3 (by simp)).2 rfl)) (hK N _ _ (fun _=>rfl) (fun _ _ _ _=>rfl) hH)
·(
obtain rfl:=so (show tu[5]? =some qki from rfl) ho
have hs0:d 17=false:=(hcl.not zea (i:=17) (j:=5) (by simp) hdi)
obtain⟨w1,hP,h1,h2⟩:=hH
obtain rfl:=h1 hs0
have hW:=hP.mem
exact al (zqy a w _ _ _ _ _ _ g5 (s) _ ((hD 4 (by simp)).2 rfl) (hW.ag co (by simp))) (hK N _ _ (fun _=>rfl) (fun _ _ _ _=>rfl) ⟨_,hP,h1,h2⟩))
·obtain rfl:=so (show tu[6]? =some qkh from rfl) ho
 exact al (bt a w _ _ _ _ _ _ _ e0') (hK N _ _ (fun _=>rfl) (fun _ _ _ _=>rfl) hH)
·obtain rfl:=so (show tu[7]? =some qkg from rfl) ho
 exact al (bt a w _ _ _ _ _ _ _ e7') (hK N _ _ (fun _=>rfl) (fun _ _ _ _=>rfl) hH)
·obtain rfl:=so (show tu[8]? =some qkf from rfl) ho
 exact al (zlr a w _ _ _ _ _ _ _ ba (oa) (na) (ca) (x) (oa+x) (by omega) hx ((hD 6 (by simp)).2 rfl) ((hD 7 (by simp)).2 rfl)) (hK N _ _ (fun _=>rfl) (fun _ _ _ _=>rfl) hH)
·(
obtain rfl:=so (show tu[9]? =some qke from rfl) ho
have hs0:d 17=false:=(hcl.not zea (i:=17) (j:=9) (by simp) hdi)
obtain⟨w1,hP,h1,h2⟩:=hH
obtain rfl:=h1 hs0
have hW:=hP.mem
exact al (zqy a w _ _ _ _ _ _ ba (oa+x) _ ((hD 8 (by simp)).2 rfl) (hW.ag cx (by simp))) (hK N _ _ (fun _=>rfl) (fun _ _ _ _=>rfl) ⟨_,hP,h1,h2⟩))
·obtain rfl:=so (show tu[10]? =some qes from rfl) ho
 exact al (bt a w _ _ _ _ _ _ _ e1') (hK N _ _ (fun _=>rfl) (fun _ _ _ _=>rfl) hH)
·obtain rfl:=so (show tu[11]? =some qer from rfl) ho
 exact al (bt a w _ _ _ _ _ _ _ e8') (hK N _ _ (fun _=>rfl) (fun _ _ _ _=>rfl) hH)
·obtain rfl:=so (show tu[12]? =some qeq from rfl) ho
 exact al (zlr a w _ _ _ _ _ _ _ bb (ob) (nb) (cb) (y) (ob+y) (by omega) hy ((hD 10 (by simp)).2 rfl) ((hD 11 (by simp)).2 rfl)) (hK N _ _ (fun _=>rfl) (fun _ _ _ _=>rfl) hH)
·(
obtain rfl:=so (show tu[13]? =some qep from rfl) ho
have hs0:d 17=false:=(hcl.not zea (i:=17) (j:=13) (by simp) hdi)
obtain⟨w1,hP,h1,h2⟩:=hH
obtain rfl:=h1 hs0
have hW:=hP.mem
exact al (zqy a w _ _ _ _ _ _ bb (ob+y) _ ((hD 12 (by simp)).2 rfl) (hW.ag cy (by simp))) (hK N _ _ (fun _=>rfl) (fun _ _ _ _=>rfl) ⟨_,hP,h1,h2⟩))
·(
obtain rfl:=so (show tu[14]? =some qeo from rfl) ho
have hs0:d 17=false:=(hcl.not zea (i:=17) (j:=14) (by simp) hdi)
obtain⟨w1,hP,h1,h2⟩:=hH
obtain rfl:=h1 hs0
have hW:=hP.mem
exact ay (qim a w _ _ _ _ _ _ _ _ _ ((hD 9 (by simp)).2 rfl) ((hD 13 (by simp)).2 rfl)) (R:=fun w' u=>∃ v,u=.pointer (some ⟨v,0,none⟩)∧(zo w' v r1)∧But [] w w') ((MU w hW).mono fun e w' ⟨v,he,hf,hb⟩=>⟨_,he,v,rfl,hf,hb⟩) (fun u w' ⟨v,hu,hf,hb⟩=>hK (v,N.2) _ _ (fun _=>hu) (fun j hj _ hdj=>by
 have:j=0∨j=1∨j=2∨j=3∨j=4∨j=5∨j=6∨j=7∨j=8∨j=9∨j=10∨j=11∨j=12∨j=13∨j=14∨j=15∨j=16∨j=17:=by omega
 rcases this with rfl|rfl|rfl|rfl|rfl|rfl|rfl|rfl|rfl|rfl|rfl|rfl|rfl|rfl|rfl|rfl|rfl|rfl <;> first|rfl | exact absurd (hdi.symm.trans hdj) (by simp)) ⟨_,((hP.but hb).s14 v hf),fun _=>rfl,fun h=>absurd (hs0.symm.trans h) (by simp)⟩))
·(
obtain rfl:=so (show tu[15]? =some qen from rfl) ho
have hs0:d 17=false:=(hcl.not zea (i:=17) (j:=15) (by simp) hdi)
obtain⟨w1,hP,h1,h2⟩:=hH
obtain rfl:=h1 hs0
have hW:=hP.mem
have t14:d 14=true:=(hD 14 (by simp)).1
exact ay (qil a w _ _ _ _ _ _ _ _ _ ((hD 5 (by simp)).2 rfl) ((hD 14 (by simp)).2 rfl)) (R:=fun w' u=>∃ v,u=.pointer (some ⟨v,0,none⟩)∧(zo w' v r2)∧But [] w w') ((AD w N.1 hW (hP.f14 t14)).mono fun e w' ⟨v,he,hf,hb⟩=>⟨_,he,v,rfl,hf,hb⟩) (fun u w' ⟨v,hu,hf,hb⟩=>hK (N.1,v) _ _ (fun _=>hu) (fun j hj _ hdj=>by
 have:j=0∨j=1∨j=2∨j=3∨j=4∨j=5∨j=6∨j=7∨j=8∨j=9∨j=10∨j=11∨j=12∨j=13∨j=14∨j=15∨j=16∨j=17:=by omega
 rcases this with rfl|rfl|rfl|rfl|rfl|rfl|rfl|rfl|rfl|rfl|rfl|rfl|rfl|rfl|rfl|rfl|rfl|rfl <;> first|rfl | exact absurd (hdi.symm.trans hdj) (by simp)) ⟨_,((hP.but hb).s15 v hf),fun _=>rfl,fun h=>absurd (hs0.symm.trans h) (by simp)⟩))
·obtain rfl:=so (show tu[16]? =some qem from rfl) ho
 exact al (zlr a w _ _ _ _ _ _ _ g5 (0) (n) (n) (s) (s) (by omega) hs' ((hD 0 (by simp)).2 rfl) ((hD 1 (by simp)).2 rfl)) (hK N _ _ (fun _=>rfl) (fun _ _ _ _=>rfl) hH)
·(
obtain rfl:=so (show tu[17]? =some qel from rfl) ho
obtain⟨w1,hP,h1,h2⟩:=hH
obtain rfl:=h1 hdi
have hW:=hP.mem
have t14:d 14=true:=(hD 14 (by simp)).1
have t15:d 15=true:=(hD 15 (by simp)).1
exact zal (qik a w _ _ _ _ _ g5 (s) _ _ ((hD 16 (by simp)).2 rfl) ((hD 15 (by simp)).2 rfl) (hW.ag co (by simp)) ((hW.frozen (p:=⟨g5,s,none⟩) (show g5<_ from ai co) (by simp)).trans fz)) (hK N undef _ (fun h=>absurd h (by decide)) (fun _ _ _ _=>rfl) ⟨w,hP,fun h=>absurd h (by rw[oq];simp),fun _=>rfl⟩)))
·(
intro N d w hd hH
obtain⟨w1,hP,h1,h2⟩:=hH
rw[h2 (hd 17 (by omega))]
rw[hd 14 (by omega),hd 15 (by omega)] at hP
exact hQ N.1 N.2 w1 hP))
theorem zyj (a:Act) (w:World) (d t:Nat) (u:TypeId) (ps:String) (ed:Array Edge) (gd:Option (Nat × Bool)) (b o o':Nat) (ho:o+0=o') (h1:a.eval (.tmp t)=.pointer (some ⟨b,o,none⟩)) :
  (execOp a.eval { dst:=some d,op:=Op.fieldAddr 151 (.tmp t) 0,type:=u,pos:=ps,after:=ed,guard:=gd }).run prog w=.ok (.value (.pointer (some ⟨b,o',none⟩))) w:=by(
subst ho
unfold execOp
simp only[h1]
go_simp)
theorem zyi (a:Act) (w:World) (d t:Nat) (u:TypeId) (ps:String) (ed:Array Edge) (gd:Option (Nat × Bool)) (b o:Nat) (v:Value) (h1:a.eval (.tmp t)=.pointer (some ⟨b,o,none⟩)) (hc:w.cell? ⟨b,o,none⟩=some v) :
  (execOp a.eval { dst:=some d,op:=Op.load 45 (.tmp t),type:=u,pos:=ps,after:=ed,guard:=gd }).run prog w=.ok (.value v) w:=by(
unfold execOp
simp only[h1]
go_simp)
theorem qij (a:Act) (w:World) (d t0 t1:Nat) (u:TypeId) (ps:String) (ed:Array Edge) (gd:Option (Nat × Bool)) (z0 z1:Value) (h0:a.eval (.tmp t0)=z0) (h1:a.eval (.tmp t1)=z1) :
  (execOp a.eval { dst:=some d,op:=Op.call { callee:=Callee.value (Operand.func 103),args:=#[Operand.tmp t0,Operand.tmp t1],argTypes:=#[45,45] },type:=u,pos:=ps,after:=ed,guard:=gd }).run prog w=.ok (.enter 103 #[z0,z1]) w:=by(
unfold execOp
go_simp
rw[← h0,← h1]
simp[Act.eval])
theorem zyh (a:Act) (w:World) (d t:Nat) (u:TypeId) (ps:String) (ed:Array Edge) (gd:Option (Nat × Bool)) (b o o':Nat) (ho:o+1=o') (h1:a.eval (.tmp t)=.pointer (some ⟨b,o,none⟩)) :
  (execOp a.eval { dst:=some d,op:=Op.fieldAddr 151 (.tmp t) 1,type:=u,pos:=ps,after:=ed,guard:=gd }).run prog w=.ok (.value (.pointer (some ⟨b,o',none⟩))) w:=by(
subst ho
unfold execOp
simp only[h1]
go_simp)
theorem qii (a:Act) (w:World) (d t0 t1:Nat) (u:TypeId) (ps:String) (ed:Array Edge) (gd:Option (Nat × Bool)) (z0 z1:Value) (h0:a.eval (.tmp t0)=z0) (h1:a.eval (.tmp t1)=z1) :
  (execOp a.eval { dst:=some d,op:=Op.call { callee:=Callee.value (Operand.func 104),args:=#[Operand.tmp t0,Operand.tmp t1],argTypes:=#[27,27] },type:=u,pos:=ps,after:=ed,guard:=gd }).run prog w=.ok (.enter 104 #[z0,z1]) w:=by(
unfold execOp
go_simp
rw[← h0,← h1]
simp[Act.eval])
theorem qdu (a:Act) (w:World) (d t0 t1:Nat) (u:TypeId) (ps:String) (ed:Array Edge) (gd:Option (Nat × Bool)) (q0:Option Addr) (n0 c0:Nat) (s1:Bool) (x1 y1:Int) (p1:Option Addr) (h0:a.eval (.tmp t0)=.slice q0 n0 c0) (h1:a.eval (.tmp t1)=.agg #[.bool s1,.int .u64 x1,.int .u64 y1,.pointer p1]) :
  (execOp a.eval { dst:=some d,op:=Op.build 151 #[(0,Operand.tmp t0),(1,Operand.tmp t1)],type:=u,pos:=ps,after:=ed,guard:=gd }).run prog w=.ok (.value (.agg #[.slice q0 n0 c0,.bool s1,.int .u64 x1,.int .u64 y1,.pointer p1])) w:=by(
unfold execOp
simp only[List.map_toArray,List.map_cons,List.map_nil,h0,h1]
go_simp)
theorem qdt (a:Act) (w:World) (d t0:Nat) (u:TypeId) (ps:String) (ed:Array Edge) (gd:Option (Nat × Bool)) (z0:Value) (h0:a.eval (.tmp t0)=z0) :
  (execOp a.eval { dst:=some d,op:=Op.call { callee:=Callee.value (Operand.func 105),args:=#[Operand.tmp t0],argTypes:=#[151] },type:=u,pos:=ps,after:=ed,guard:=gd }).run prog w=.ok (.enter 105 #[z0]) w:=by(
unfold execOp
go_simp
rw[← h0]
simp[Act.eval])
theorem qds (a:Act) (w:World) (d:Nat) (u:TypeId) (ps:String) (ed:Array Edge) (gd:Option (Nat × Bool)) (c:Value) :
  (execOp a.eval { dst:=some d,op:=Op.assign (Operand.const c),type:=u,pos:=ps,after:=ed,guard:=gd }).run prog w=.ok (.value c) w:=by(
unfold execOp
go_simp
try rfl)
def qkc:Oper:=⟨some 28,.fieldAddr 151 (.tmp 7) 0,0, "together.go:18",#[],none⟩
def qkb:Oper:=⟨some 29,.load 45 (.tmp 28),45, "together.go:18",#[⟨0,.data⟩],none⟩
def qka:Oper:=⟨some 30,.fieldAddr 151 (.tmp 8) 0,0, "together.go:18",#[],none⟩
def qjz:Oper:=⟨some 31,.load 45 (.tmp 30),45, "together.go:18",#[⟨2,.data⟩],none⟩
def qjy:Oper:=⟨some 32,.call { callee:=.value (.func 103),args:=#[.tmp 29,.tmp 31],argTypes:=#[45,45] },45, "together.go:18",#[⟨1,.data⟩,⟨3,.data⟩],none⟩
def qjx:Oper:=⟨some 33,.fieldAddr 151 (.tmp 7) 1,0, "together.go:18",#[],none⟩
def qjw:Oper:=⟨some 34,.load 27 (.tmp 33),27, "together.go:18",#[⟨5,.data⟩],none⟩
def qjv:Oper:=⟨some 35,.fieldAddr 151 (.tmp 8) 1,0, "together.go:18",#[],none⟩
def qju:Oper:=⟨some 36,.load 27 (.tmp 35),27, "together.go:18",#[⟨7,.data⟩],none⟩
def qjt:Oper:=⟨some 37,.call { callee:=.value (.func 104),args:=#[.tmp 34,.tmp 36],argTypes:=#[27,27] },27, "together.go:18",#[⟨6,.data⟩,⟨8,.data⟩,⟨4,.chain⟩],none⟩
def qek:Oper:=⟨some 38,.build 151 #[(0,.tmp 32),(1,.tmp 37)],151, "together.go:18",#[⟨4,.data⟩,⟨9,.data⟩],none⟩
def qej:Oper:=⟨some 39,.call { callee:=.value (.func 105),args:=#[.tmp 38],argTypes:=#[151] },45, "together.go:18",#[⟨10,.data⟩,⟨9,.chain⟩],none⟩
def qei:Oper:=⟨some 4,.assign (.tmp 39),46, "together.go:18",#[⟨11,.data⟩,⟨11,.chain⟩,⟨0,.phase⟩,⟨1,.phase⟩,⟨2,.phase⟩,⟨3,.phase⟩,⟨4,.phase⟩,⟨5,.phase⟩,⟨6,.phase⟩,⟨7,.phase⟩,⟨8,.phase⟩,⟨9,.phase⟩,⟨10,.phase⟩,⟨11,.phase⟩],none⟩
def qeh:Oper:=⟨some 5,.assign (.const .nilIface),29, "together.go:18",#[⟨12,.chain⟩,⟨0,.phase⟩,⟨1,.phase⟩,⟨2,.phase⟩,⟨3,.phase⟩,⟨4,.phase⟩,⟨5,.phase⟩,⟨6,.phase⟩,⟨7,.phase⟩,⟨8,.phase⟩,⟨9,.phase⟩,⟨10,.phase⟩,⟨11,.phase⟩,⟨12,.phase⟩],none⟩
def zbq:Array Oper:=#[qkc,qkb,qka,qjz,qjy,qjx,qjw,qjv,qju,qjt,qek,qej,qei,qeh]
structure zcl (W0:World) (g7:Nat) (g8:Nat) (b1:Nat) (o1:Nat) (n1:Nat) (c1:Nat) (b2:Nat) (o2:Nat) (n2:Nat) (c2:Nat) (L:Nat) (pl:List Rat) (ql:List Rat) (ur:Rat) (s1:Bool) (x1:Int) (y1:Int) (p1:Option Addr) (s2:Bool) (x2:Int) (y2:Int) (p2:Option Addr) (p:Nat) (z:FZ) (q:Nat) (b4:Bool) (b9:Bool) (b11:Bool) (w:World):Prop where
 mem:But [] W0 w
 f4:b4=true→au w (.slice (some ⟨p,0,none⟩) L L) pl
 f9:b9=true→aq w (.agg #[.bool z.1,.int .u64 z.2.1,.int .u64 z.2.2.1,.pointer z.2.2.2]) (ur)
 f11:b11=true→au w (.slice (some ⟨q,0,none⟩) L L) ql
theorem zcl.but {W0:World} {g7:Nat} {g8:Nat} {b1:Nat} {o1:Nat} {n1:Nat} {c1:Nat} {b2:Nat} {o2:Nat} {n2:Nat} {c2:Nat} {L:Nat} {pl:List Rat} {ql:List Rat} {ur:Rat} {s1:Bool} {x1:Int} {y1:Int} {p1:Option Addr} {s2:Bool} {x2:Int} {y2:Int} {p2:Option Addr} {p:Nat} {z:FZ} {q:Nat} {b4 b9 b11:Bool} {w w':World} (h:zcl W0 g7 g8 b1 o1 n1 c1 b2 o2 n2 c2 L pl ql ur s1 x1 y1 p1 s2 x2 y2 p2 p z q b4 b9 b11 w) (hb:But [] w w'):zcl W0 g7 g8 b1 o1 n1 c1 b2 o2 n2 c2 L pl ql ur s1 x1 y1 p1 s2 x2 y2 p2 p z q b4 b9 b11 w' :=
 { mem:=h.mem.trans' hb,f4:=fun e=>(h.f4 e).but hb,f9:=fun e=>(h.f9 e).but hb,f11:=fun e=>(h.f11 e).but hb }
theorem zcl.s4 {W0:World} {g7:Nat} {g8:Nat} {b1:Nat} {o1:Nat} {n1:Nat} {c1:Nat} {b2:Nat} {o2:Nat} {n2:Nat} {c2:Nat} {L:Nat} {pl:List Rat} {ql:List Rat} {ur:Rat} {s1:Bool} {x1:Int} {y1:Int} {p1:Option Addr} {s2:Bool} {x2:Int} {y2:Int} {p2:Option Addr} {p:Nat} {z:FZ} {q:Nat} {b4 b9 b11:Bool} {w:World} (h:zcl W0 g7 g8 b1 o1 n1 c1 b2 o2 n2 c2 L pl ql ur s1 x1 y1 p1 s2 x2 y2 p2 p z q b4 b9 b11 w) (p':Nat) (hf:au w (.slice (some ⟨p',0,none⟩) L L) pl):zcl W0 g7 g8 b1 o1 n1 c1 b2 o2 n2 c2 L pl ql ur s1 x1 y1 p1 s2 x2 y2 p2 p' z q true b9 b11 w :=
 { mem:=h.mem,f4:=fun _=>hf,f9:=h.f9,f11:=h.f11 }
theorem zcl.s9 {W0:World} {g7:Nat} {g8:Nat} {b1:Nat} {o1:Nat} {n1:Nat} {c1:Nat} {b2:Nat} {o2:Nat} {n2:Nat} {c2:Nat} {L:Nat} {pl:List Rat} {ql:List Rat} {ur:Rat} {s1:Bool} {x1:Int} {y1:Int} {p1:Option Addr} {s2:Bool} {x2:Int} {y2:Int} {p2:Option Addr} {p:Nat} {z:FZ} {q:Nat} {b4 b9 b11:Bool} {w:World} (h:zcl W0 g7 g8 b1 o1 n1 c1 b2 o2 n2 c2 L pl ql ur s1 x1 y1 p1 s2 x2 y2 p2 p z q b4 b9 b11 w) (z':FZ) (hf:aq w (.agg #[.bool z'.1,.int .u64 z'.2.1,.int .u64 z'.2.2.1,.pointer z'.2.2.2]) (ur)):zcl W0 g7 g8 b1 o1 n1 c1 b2 o2 n2 c2 L pl ql ur s1 x1 y1 p1 s2 x2 y2 p2 p z' q b4 true b11 w :=
 { mem:=h.mem,f4:=h.f4,f9:=fun _=>hf,f11:=h.f11 }
theorem zcl.s11 {W0:World} {g7:Nat} {g8:Nat} {b1:Nat} {o1:Nat} {n1:Nat} {c1:Nat} {b2:Nat} {o2:Nat} {n2:Nat} {c2:Nat} {L:Nat} {pl:List Rat} {ql:List Rat} {ur:Rat} {s1:Bool} {x1:Int} {y1:Int} {p1:Option Addr} {s2:Bool} {x2:Int} {y2:Int} {p2:Option Addr} {p:Nat} {z:FZ} {q:Nat} {b4 b9 b11:Bool} {w:World} (h:zcl W0 g7 g8 b1 o1 n1 c1 b2 o2 n2 c2 L pl ql ur s1 x1 y1 p1 s2 x2 y2 p2 p z q b4 b9 b11 w) (q':Nat) (hf:au w (.slice (some ⟨q',0,none⟩) L L) ql):zcl W0 g7 g8 b1 o1 n1 c1 b2 o2 n2 c2 L pl ql ur s1 x1 y1 p1 s2 x2 y2 p2 p z q' b4 b9 true w :=
 { mem:=h.mem,f4:=h.f4,f9:=h.f9,f11:=fun _=>hf }
def zgx (i:Nat):Nat:=match i with
 | 0=>28
 | 1=>29
 | 2=>30
 | 3=>31
 | 4=>32
 | 5=>33
 | 6=>34
 | 7=>35
 | 8=>36
 | 9=>37
 | 10=>38
 | 11=>39
 | 12=>4
 | _=>5
def zne (i:Nat):Bool:=match i with
 | _=>true
def qjs (g7:Nat) (g8:Nat) (b1:Nat) (o1:Nat) (n1:Nat) (c1:Nat) (b2:Nat) (o2:Nat) (n2:Nat) (c2:Nat) (L:Nat) (pl:List Rat) (ql:List Rat) (ur:Rat) (s1:Bool) (x1:Int) (y1:Int) (p1:Option Addr) (s2:Bool) (x2:Int) (y2:Int) (p2:Option Addr) (p:Nat) (z:FZ) (q:Nat) (i:Nat):Value:=match i with
 | 0=>.pointer (some ⟨g7,0,none⟩)
 | 1=>.slice (some ⟨b1,o1,none⟩) n1 c1
 | 2=>.pointer (some ⟨g8,0,none⟩)
 | 3=>.slice (some ⟨b2,o2,none⟩) n2 c2
 | 4=>.slice (some ⟨p,0,none⟩) L L
 | 5=>.pointer (some ⟨g7,1,none⟩)
 | 6=>.agg #[.bool s1,.int .u64 x1,.int .u64 y1,.pointer p1]
 | 7=>.pointer (some ⟨g8,1,none⟩)
 | 8=>.agg #[.bool s2,.int .u64 x2,.int .u64 y2,.pointer p2]
 | 9=>.agg #[.bool z.1,.int .u64 z.2.1,.int .u64 z.2.2.1,.pointer z.2.2.2]
 | 10=>.agg #[.slice (some ⟨p,0,none⟩) L L,.bool z.1,.int .u64 z.2.1,.int .u64 z.2.2.1,.pointer z.2.2.2]
 | 11=>.slice (some ⟨q,0,none⟩) L L
 | 12=>.slice (some ⟨q,0,none⟩) L L
 | _=>.nilIface
theorem zfr:zev zbq [(1,0),(3,2),(4,1),(4,3),(6,5),(8,7),(9,4),(9,6),(9,8),(10,4),(10,9),(11,9),(11,10),(12,0),(12,1),(12,2),(12,3),(12,4),(12,5),(12,6),(12,7),(12,8),(12,9),(12,10),(12,11),(13,0),(13,1),(13,2),(13,3),(13,4),(13,5),(13,6),(13,7),(13,8),(13,9),(13,10),(13,11),(13,12)]=true:=by kernel_rfl
theorem qao:∀ i j,i<14→j<14→zne i=true→zne j=true→zgx i=zgx j→i=j:=fun i j hi hj=>(by decide:∀ i,i<14→∀ j,j<14→zne i=true→zne j=true→zgx i=zgx j→i=j) i hi j hj
theorem zso (id:Nat) (Q:Exit→Act→World→Prop) (base:Act) (W0:World) (g7:Nat) (g8:Nat) (b1:Nat) (o1:Nat) (n1:Nat) (c1:Nat) (b2:Nat) (o2:Nat) (n2:Nat) (c2:Nat) (L:Nat) (pl:List Rat) (ql:List Rat) (ur:Rat) (s1:Bool) (x1:Int) (y1:Int) (p1:Option Addr) (s2:Bool) (x2:Int) (y2:Int) (p2:Option Addr) (hs:39<base.tmps.size) (e7:base.eval (.tmp 7)=.pointer (some ⟨g7,0,none⟩)) (e8:base.eval (.tmp 8)=.pointer (some ⟨g8,0,none⟩))
  (cu:W0.cell? ⟨g7,0,none⟩=some (.slice (some ⟨b1,o1,none⟩) n1 c1)) (cv:P4o W0 g7 (1) s1 x1 y1 p1) (cw:W0.cell? ⟨g8,0,none⟩=some (.slice (some ⟨b2,o2,none⟩) n2 c2)) (cz:P4o W0 g8 (1) s2 x2 y2 p2) (PRO:∀ w,But [] W0 w→Calls prog 103 #[.slice (some ⟨b1,o1,none⟩) n1 c1,.slice (some ⟨b2,o2,none⟩) n2 c2] w fun e w'=>∃ g,e=.returned (.slice (some ⟨g,0,none⟩) L L)∧au w' (.slice (some ⟨g,0,none⟩) L L) pl∧But [] w w') (MU:∀ w,But [] W0 w→Calls prog 104 #[.agg #[.bool s1,.int .u64 x1,.int .u64 y1,.pointer p1],.agg #[.bool s2,.int .u64 x2,.int .u64 y2,.pointer p2]] w fun e w'=>∃ z:FZ,e=.returned (.agg #[.bool z.1,.int .u64 z.2.1,.int .u64 z.2.2.1,.pointer z.2.2.2])∧aq w' (.agg #[.bool z.1,.int .u64 z.2.1,.int .u64 z.2.2.1,.pointer z.2.2.2]) (ur)∧But [] w w') (CH:∀ w (g:Nat) (z:FZ),But [] W0 w→au w (.slice (some ⟨g,0,none⟩) L L) pl→aq w (.agg #[.bool z.1,.int .u64 z.2.1,.int .u64 z.2.2.1,.pointer z.2.2.2]) ur→Calls prog 105 #[.agg #[.slice (some ⟨g,0,none⟩) L L,.bool z.1,.int .u64 z.2.1,.int .u64 z.2.2.1,.pointer z.2.2.2]] w fun e w'=>∃ g,e=.returned (.slice (some ⟨g,0,none⟩) L L)∧au w' (.slice (some ⟨g,0,none⟩) L L) ql∧But [] w w')
  (hQ:∀ (p:Nat) (z:FZ) (q:Nat) w1,zcl W0 g7 g8 b1 o1 n1 c1 b2 o2 n2 c2 L pl ql ur s1 x1 y1 p1 s2 x2 y2 p2 p z q true true true w1→Q .normal (bj base [(28,.pointer (some ⟨g7,0,none⟩)),(29,.slice (some ⟨b1,o1,none⟩) n1 c1),(30,.pointer (some ⟨g8,0,none⟩)),(31,.slice (some ⟨b2,o2,none⟩) n2 c2),(32,.slice (some ⟨p,0,none⟩) L L),(33,.pointer (some ⟨g7,1,none⟩)),(34,.agg #[.bool s1,.int .u64 x1,.int .u64 y1,.pointer p1]),(35,.pointer (some ⟨g8,1,none⟩)),(36,.agg #[.bool s2,.int .u64 x2,.int .u64 y2,.pointer p2]),(37,.agg #[.bool z.1,.int .u64 z.2.1,.int .u64 z.2.2.1,.pointer z.2.2.2]),(38,.agg #[.slice (some ⟨p,0,none⟩) L L,.bool z.1,.int .u64 z.2.1,.int .u64 z.2.2.1,.pointer z.2.2.2]),(39,.slice (some ⟨q,0,none⟩) L L),(4,.slice (some ⟨q,0,none⟩) L L),(5,.nilIface)]) w1) :
  (Code.region id zbq true).wp prog Q base W0:=by(
have hT:∀ i,i<14→zne i=true→zgx i<base.tmps.size:=fun i hi _=>by
 have h:zgx i≤39:=by revert i;decide
 omega
refine zmu (by kernel_rfl) (zco (by kernel_rfl)) (zmb (by kernel_rfl)) (fun (N:(Nat) × (FZ) × (Nat)) d w=>zcl W0 g7 g8 b1 o1 n1 c1 b2 o2 n2 c2 L pl ql ur s1 x1 y1 p1 s2 x2 y2 p2 N.1 N.2.1 N.2.2 (d 4) (d 9) (d 11) w) (fun N=>qjs g7 g8 b1 o1 n1 c1 b2 o2 n2 c2 L pl ql ur s1 x1 y1 p1 s2 x2 y2 p2 N.1 N.2.1 N.2.2) zgx zne 14 (by kernel_rfl) qao hT (0,(false,0,0,none),0) { mem:=(But.refl _ _).drew,f4:=fun h=>by simp at h,f9:=fun h=>by simp at h,f11:=fun h=>by simp at h } ?_ ?_
·(
intro N d i o a w K hi ho hdi hcl hH he hdep hK
have hD:=zrt zfr ho (fun j=>d j=true∧(zne j=true→a.eval (.tmp (zgx j))=qjs g7 g8 b1 o1 n1 c1 b2 o2 n2 c2 L pl ql ur s1 x1 y1 p1 s2 x2 y2 p2 N.1 N.2.1 N.2.2 j)) hdep
have e7':=(he 7 (fun j hj _ _=>(by decide:∀ j,j<14→(7:Nat)≠zgx j) j hj)).trans e7
have e8':=(he 8 (fun j hj _ _=>(by decide:∀ j,j<14→(8:Nat)≠zgx j) j hj)).trans e8
have:i=0∨i=1∨i=2∨i=3∨i=4∨i=5∨i=6∨i=7∨i=8∨i=9∨i=10∨i=11∨i=12∨i=13:=by omega
rcases this with rfl|rfl|rfl|rfl|rfl|rfl|rfl|rfl|rfl|rfl|rfl|rfl|rfl|rfl
·obtain rfl:=so (show zbq[0]? =some qkc from rfl) ho
 exact al (zyj a w _ _ _ _ _ _ g7 (0) (0) rfl e7') (hK N _ _ (fun _=>rfl) (fun _ _ _ _=>rfl) hH)
·obtain rfl:=so (show zbq[1]? =some qkb from rfl) ho
 have hP:=hH
 have hW:=hP.mem
 exact al (zyi a w _ _ _ _ _ _ g7 (0) _ ((hD 0 (by simp)).2 rfl) (hW.ag cu (by simp))) (hK N _ _ (fun _=>rfl) (fun _ _ _ _=>rfl) hH)
·obtain rfl:=so (show zbq[2]? =some qka from rfl) ho
 exact al (zyj a w _ _ _ _ _ _ g8 (0) (0) rfl e8') (hK N _ _ (fun _=>rfl) (fun _ _ _ _=>rfl) hH)
·obtain rfl:=so (show zbq[3]? =some qjz from rfl) ho
 have hP:=hH
 have hW:=hP.mem
 exact al (zyi a w _ _ _ _ _ _ g8 (0) _ ((hD 2 (by simp)).2 rfl) (hW.ag cw (by simp))) (hK N _ _ (fun _=>rfl) (fun _ _ _ _=>rfl) hH)
·(
obtain rfl:=so (show zbq[4]? =some qjy from rfl) ho
have hP:=hH
have hW:=hP.mem
exact ay (qij a w _ _ _ _ _ _ _ _ _ ((hD 1 (by simp)).2 rfl) ((hD 3 (by simp)).2 rfl)) (R:=fun w' u=>∃ v,u=.slice (some ⟨v,0,none⟩) L L∧(au w' (.slice (some ⟨v,0,none⟩) L L) pl)∧But [] w w') ((PRO w hW).mono fun e w' ⟨v,he,hf,hb⟩=>⟨_,he,v,rfl,hf,hb⟩) (fun u w' ⟨v,hu,hf,hb⟩=>hK (v,N.2.1,N.2.2) _ _ (fun _=>hu) (fun j hj _ hdj=>by
 have:j=0∨j=1∨j=2∨j=3∨j=4∨j=5∨j=6∨j=7∨j=8∨j=9∨j=10∨j=11∨j=12∨j=13:=by omega
 rcases this with rfl|rfl|rfl|rfl|rfl|rfl|rfl|rfl|rfl|rfl|rfl|rfl|rfl|rfl <;> first|rfl | exact absurd (hdi.symm.trans hdj) (by simp) | exact absurd ((hcl.not zfr (i:=10) (j:=4) (by simp) hdi).symm.trans hdj) (by simp)) ((hP.but hb).s4 v hf)))
·obtain rfl:=so (show zbq[5]? =some qjx from rfl) ho
 exact al (zyh a w _ _ _ _ _ _ g7 (0) (1) rfl e7') (hK N _ _ (fun _=>rfl) (fun _ _ _ _=>rfl) hH)
·obtain rfl:=so (show zbq[6]? =some qjw from rfl) ho
 have hP:=hH
 have hW:=hP.mem
 exact al (aw a w _ _ _ _ _ _ g7 (1) _ _ _ _ ((hD 5 (by simp)).2 rfl) (cv.but hW (by simp))) (hK N _ _ (fun _=>rfl) (fun _ _ _ _=>rfl) hH)
·obtain rfl:=so (show zbq[7]? =some qjv from rfl) ho
 exact al (zyh a w _ _ _ _ _ _ g8 (0) (1) rfl e8') (hK N _ _ (fun _=>rfl) (fun _ _ _ _=>rfl) hH)
·obtain rfl:=so (show zbq[8]? =some qju from rfl) ho
 have hP:=hH
 have hW:=hP.mem
 exact al (aw a w _ _ _ _ _ _ g8 (1) _ _ _ _ ((hD 7 (by simp)).2 rfl) (cz.but hW (by simp))) (hK N _ _ (fun _=>rfl) (fun _ _ _ _=>rfl) hH)
·(
obtain rfl:=so (show zbq[9]? =some qjt from rfl) ho
have hP:=hH
have hW:=hP.mem
exact ay (qii a w _ _ _ _ _ _ _ _ _ ((hD 6 (by simp)).2 rfl) ((hD 8 (by simp)).2 rfl)) (R:=fun w' u=>∃ v,u=.agg #[.bool v.1,.int .u64 v.2.1,.int .u64 v.2.2.1,.pointer v.2.2.2]∧(aq w' (.agg #[.bool v.1,.int .u64 v.2.1,.int .u64 v.2.2.1,.pointer v.2.2.2]) (ur))∧But [] w w') ((MU w hW).mono fun e w' ⟨v,he,hf,hb⟩=>⟨_,he,v,rfl,hf,hb⟩) (fun u w' ⟨v,hu,hf,hb⟩=>hK (N.1,v,N.2.2) _ _ (fun _=>hu) (fun j hj _ hdj=>by
 have:j=0∨j=1∨j=2∨j=3∨j=4∨j=5∨j=6∨j=7∨j=8∨j=9∨j=10∨j=11∨j=12∨j=13:=by omega
 rcases this with rfl|rfl|rfl|rfl|rfl|rfl|rfl|rfl|rfl|rfl|rfl|rfl|rfl|rfl <;> first|rfl | exact absurd (hdi.symm.trans hdj) (by simp) | exact absurd ((hcl.not zfr (i:=10) (j:=9) (by simp) hdi).symm.trans hdj) (by simp)) ((hP.but hb).s9 v hf)))
·obtain rfl:=so (show zbq[10]? =some qek from rfl) ho
 exact al (qdu a w _ _ _ _ _ _ _ _ _ _ _ _ _ _ ((hD 4 (by simp)).2 rfl) ((hD 9 (by simp)).2 rfl)) (hK N _ _ (fun _=>rfl) (fun _ _ _ _=>rfl) hH)
·(
obtain rfl:=so (show zbq[11]? =some qej from rfl) ho
have hP:=hH
have hW:=hP.mem
have t4:d 4=true:=(hcl.dep zfr (i:=9) (j:=4) (by simp) (hD 9 (by simp)).1)
have t9:d 9=true:=(hD 9 (by simp)).1
exact ay (qdt a w _ _ _ _ _ _ _ ((hD 10 (by simp)).2 rfl)) (R:=fun w' u=>∃ v,u=.slice (some ⟨v,0,none⟩) L L∧(au w' (.slice (some ⟨v,0,none⟩) L L) ql)∧But [] w w') ((CH w N.1 N.2.1 hW (hP.f4 t4) (hP.f9 t9)).mono fun e w' ⟨v,he,hf,hb⟩=>⟨_,he,v,rfl,hf,hb⟩) (fun u w' ⟨v,hu,hf,hb⟩=>hK (N.1,N.2.1,v) _ _ (fun _=>hu) (fun j hj _ hdj=>by
 have:j=0∨j=1∨j=2∨j=3∨j=4∨j=5∨j=6∨j=7∨j=8∨j=9∨j=10∨j=11∨j=12∨j=13:=by omega
 rcases this with rfl|rfl|rfl|rfl|rfl|rfl|rfl|rfl|rfl|rfl|rfl|rfl|rfl|rfl <;> first|rfl | exact absurd (hdi.symm.trans hdj) (by simp) | exact absurd ((hcl.not zfr (i:=12) (j:=11) (by simp) hdi).symm.trans hdj) (by simp)) ((hP.but hb).s11 v hf)))
·obtain rfl:=so (show zbq[12]? =some qei from rfl) ho
 exact al (qih a w _ _ _ _ _ _ _ ((hD 11 (by simp)).2 rfl)) (hK N _ _ (fun _=>rfl) (fun _ _ _ _=>rfl) hH)
·obtain rfl:=so (show zbq[13]? =some qeh from rfl) ho
 exact al (qds a w _ _ _ _ _ _) (hK N _ _ (fun _=>rfl) (fun _ _ _ _=>rfl) hH))
·intro N d w hd hH
 have hP:zcl W0 g7 g8 b1 o1 n1 c1 b2 o2 n2 c2 L pl ql ur s1 x1 y1 p1 s2 x2 y2 p2 N.1 N.2.1 N.2.2 (d 4) (d 9) (d 11) w:=hH
 rw[hd 4 (by omega),hd 9 (by omega),hd 11 (by omega)] at hP
 exact hQ N.1 N.2.1 N.2.2 w hP)
theorem jq.qai {w:World} {g n:Nat} {F:Nat→Rat} (h:jq w g n (fun _=>True) F):za w (.slice (some ⟨g,0,none⟩) n n) ((List.range n).map F):=by(
refine⟨some ⟨g,0,none⟩,n,by simp,by simp,fun i f hi=>?_⟩
have hin:i<n:=by
 have:=(List.getElem?_eq_some_iff.1 hi).1
 simpa using this
rw[List.getElem?_map,List.getElem?_range hin,Option.map_some] at hi
obtain rfl:=Option.some.inj hi
obtain⟨b,hc,hb⟩:=h.told i hin trivial
exact⟨g,0,_,rfl,by rw[Nat.zero_add];exact hc,b,rfl,hb⟩)
end Go.Proofs.YtpmjeclpkahkmaaGreatDoor
