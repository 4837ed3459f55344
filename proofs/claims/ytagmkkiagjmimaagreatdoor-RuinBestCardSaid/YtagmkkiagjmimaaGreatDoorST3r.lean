/- Rows of a call's own stay, and what is k -/
import Derived.Test.YtagmkkiagjmimaaGreatDoorSF8
import Derived.Test.YtagmkkiagjmimaaGreatDoorSHD
namespace Go.Proofs.YtagmkkiagjmimaaGreatDoor
open Go.Proofs.Tryz
open Go.RowKit
set_option maxHeartbeats 8000000
set_option maxRecDepth 100000
set_option linter.unusedVariables false
theorem ownsRow_form {w:World} {base:Nat} {e:TypeId} {size:Nat} {v:Value} {n:Nat} {xs:List Value} (h:w.ownsRow base e size v n xs):∃ a c,v=.slice a n c:=by(
 rcases h.2 with ⟨rfl,h0⟩|⟨g,cap,cur,rfl,-⟩
 ·exact⟨none,0,by rw[h0]⟩
 ·exact⟨_,_,rfl⟩)
theorem zgx {w0 w w':World} {base:Nat} {e:TypeId} {size:Nat} {v:Value} {n:Nat} {xs:List Value} (h:But [] w0 w) (ho:w.ownsRow base e size v n xs) (hb:w0.heap.size≤base) (hg:w.grownBy w' v.ownBlock):But [] w0 w' :=
 ⟨hg.os.trans h.os,hg.tape.trans h.tape,hg.output.trans h.output,Nat.le_trans h.size hg.size,fun k hk _=>by
  rw[hg.block k (Nat.lt_of_lt_of_le hk h.size) (fun e=>by have:=(ho.lt k e.symm).1;omega)]
  exact h.block k hk (by simp)⟩
theorem zif {w w':World} {base:Nat} {e:TypeId} {size:Nat} {v:Value} {n:Nat} {xs:List Value} (h:w.ownsRow base e size v n xs) (hb:But [] w w'):w'.ownsRow base e size v n xs :=
 h.kept (row:=none) ⟨hb.os,hb.tape,hb.output,hb.size,fun k hk _=>hb.block k hk (by simp)⟩ (by
  by_cases h0:v.ownBlock=none
  ·exact .inl h0
  ·exact .inr h0)
theorem zhq {a b:Nat} (h:a≤b):(wd 4294967296 a).length≤(wd 4294967296 b).length:=aj (by omega) _ _ (Nat.lt_of_le_of_lt h (ak (by omega) b _ (Nat.le_refl _)))
theorem qcv (a b n:Nat) (ha:(wd 4294967296 a).length≤n) (hb:(wd 4294967296 b).length≤n):(wd 4294967296 (a+b)).length≤n+1:=by(
 refine aj (by omega) _ _ ?_
 have h1:=ak (B:=4294967296) (by omega) a n ha
 have h2:=ak (B:=4294967296) (by omega) b n hb
 rw[Nat.pow_succ]
 omega)
theorem zdg (x y:Int) (n:Nat) (hx:(wd 4294967296 x.natAbs).length≤n) (hy:(wd 4294967296 y.natAbs).length≤n):(wd 4294967296 (x+y).natAbs).length≤n+1 :=
 Nat.le_trans (zhq (Int.natAbs_add_le x y)) (qcv _ _ n hx hy)
theorem zwi (f:Rat) (p q:Int) (n:Nat) (hq:q≠0) (h:f.num*q=p*(f.den:Int)) (hp:(wd 4294967296 p.natAbs).length≤n) (hl:(wd 4294967296 q.natAbs).length≤n):qw f n:=by(
 obtain⟨e1,e2⟩:=zdc p q hq f h
 constructor
 ·(
 have h1:f.num.natAbs=p.natAbs/Nat.gcd p.natAbs q.natAbs:=by
  rw[e1,zqv]
  split <;> simp
 rw[h1]
 exact Nat.le_trans (zhq (Nat.div_le_self _ _)) hp)
 ·(
 have h2:f.den=q.natAbs/Nat.gcd p.natAbs q.natAbs:=by
  have:=e2
  rw[zci] at this
  omega
 rw[h2]
 exact Nat.le_trans (zhq (Nat.div_le_self _ _)) hl))
theorem qw.mono {f:Rat} {m n:Nat} (h:qw f m) (hmn:m≤n):qw f n:=⟨Nat.le_trans h.1 hmn,Nat.le_trans h.2 hmn⟩
theorem zfn (f g:Rat):(f+g).num*((f.den:Int)*(g.den:Int))=(f.num*(g.den:Int)+g.num*(f.den:Int))*((f+g).den:Int):=by
 have h:=zno f g
 grind
theorem jy (x y:Int) (m n:Nat) (hx:(wd 4294967296 x.natAbs).length≤m) (hy:(wd 4294967296 y.natAbs).length≤n):(wd 4294967296 (x*y).natAbs).length≤m+n:=by(
 rw[Int.natAbs_mul]
 have:=zee x.natAbs y.natAbs
 omega)
theorem qw.mul {f g:Rat} {m n:Nat} (hf:qw f m) (hg:qw g n):qw (f*g) (m+n):=by(
 have hfd:0<f.den:=Nat.pos_of_ne_zero f.den_nz
 have hgd:0<g.den:=Nat.pos_of_ne_zero g.den_nz
 have hc:=sj f g
 rw[Int.natCast_mul] at hc
 exact zwi _ _ _ _ (Int.mul_ne_zero (by omega) (by omega)) hc (jy _ _ _ _ hf.1 hg.1) (jy _ _ _ _ (by rw[Int.natAbs_natCast];exact hf.2) (by rw[Int.natAbs_natCast];exact hg.2)))
theorem qw.add {f g:Rat} {m n:Nat} (hf:qw f m) (hg:qw g n):qw (f+g) (m+n+1):=by(
 have hfd:0<f.den:=Nat.pos_of_ne_zero f.den_nz
 have hgd:0<g.den:=Nat.pos_of_ne_zero g.den_nz
 have d1:(wd 4294967296 ((f.den:Nat):Int).natAbs).length≤m:=by rw[Int.natAbs_natCast];exact hf.2
 have d2:(wd 4294967296 ((g.den:Nat):Int).natAbs).length≤n:=by rw[Int.natAbs_natCast];exact hg.2
 refine zwi _ _ _ _ (Int.mul_ne_zero (by omega) (by omega)) (zfn f g) (zdg _ _ _ (jy _ _ _ _ hf.1 d2) ?_) (Nat.le_succ_of_le (jy _ _ _ _ d1 d2))
 rw[Nat.add_comm m n]
 exact jy _ _ _ _ hg.1 d1)
theorem ztq (xb yb:Nat) (f g:Rat) (w:World) (hx:zi w xb f) (hy:zi w yb g) (lf:qw f 2000000) (lg:qw g 2000000) :
   Calls prog 82 #[.pointer (some ⟨xb,0,none⟩),.pointer (some ⟨yb,0,none⟩)] w fun e w'=>∃ zb,e=.returned (.pointer (some ⟨zb,0,none⟩))∧But [] w w'∧zi w' zb (f+g)∧w.heap.size≤zb:=by(
 have hfd:0<f.den:=Nat.pos_of_ne_zero f.den_nz
 have hgd:0<g.den:=Nat.pos_of_ne_zero g.den_nz
 have hQ0:(f.den:Int)*(g.den:Int)≠0:=Int.mul_ne_zero (by omega) (by omega)
 obtain⟨e1,e2⟩:=zdc (f.num*(g.den:Int)+g.num*(f.den:Int)) ((f.den:Int)*(g.den:Int)) hQ0 (f+g) (zfn f g)
 obtain⟨W0,hW0⟩:∃ W0,W0=w.alloc (.cells #[.bool false,.slice none 0 0,.bool false,.slice none 0 0] 113):=⟨_,rfl⟩
 have hs:=zaw w 113
 have hbw:But [] w W0:=by rw[hW0];exact (But.refl _ _).alloc _
 rw[← hW0] at hs
 obtain⟨lf1,lf2⟩:=lf
 obtain⟨lg1,lg2⟩:=lg
 have d1:(wd 4294967296 ((f.den:Nat):Int).natAbs).length≤2000000:=by rw[Int.natAbs_natCast];exact lf2
 have d2:(wd 4294967296 ((g.den:Nat):Int).natAbs).length≤2000000:=by rw[Int.natAbs_natCast];exact lg2
 have p1:=jy f.num (g.den:Int) _ _ lf1 d2
 have p2:=jy g.num (f.den:Int) _ _ lg1 d1
 have p3:=jy (f.den:Int) (g.den:Int) _ _ d1 d2
 have p4:=zdg _ _ _ p1 p2
 have MU:=af (zqx w.heap.size xb yb f.num g.num f.den g.den W0 hs.1 hs.2 (zx.but hx hbw) (zx.but hy hbw) hfd hgd (by omega) (by omega) (by omega) (by omega) _ _ _ _ rfl rfl rfl rfl (by omega) (by omega) (by omega) (by omega) hQ0 (f+g).num ((f+g).den:Int) e1 e2)
 have HW0:=af hW0
 have HBW:=af hbw
 clear hW0 hbw hs e1 e2 hQ0 p1 p2 p3 p4 d1 d2 lf1 lf2 lg1 lg2 hx hy hfd hgd
 go_enter func82,ntmps82
 go_wp2_with fail
 rw[← ae HW0]
 refine (ae MU).mono ?_
 rintro e w1 ⟨rfl,h1,h2⟩
 have FIN:=af (And.intro ((ae HBW).trans h1 (by simp)) h2)
 clear h1 h2 MU
 go_wp2
 go_ret
 exact⟨w.heap.size,rfl,(ae FIN).1,(ae FIN).2,Nat.le_refl _⟩)
theorem zhp {f:Rat} {m:Nat} (h:qw f m):∀ n,qw (zbz f n) (m*n+1)
 | 0=>⟨by show (wd 4294967296 1).length≤_;exact Nat.le_trans (aj (B:=4294967296) (by omega) 1 1 (by omega)) (by omega),by show (wd 4294967296 1).length≤_;exact Nat.le_trans (aj (B:=4294967296) (by omega) 1 1 (by omega)) (by omega)⟩
 | n+1=>((zhp h n).mul h).mono (by rw[Nat.mul_succ];omega)
def qew (u:Value):Prop:=(∀ s,u≠.bool s)∧∀ n:Int,u≠.int .u32 n
theorem za.zwa {w w':World} {b o g:Nat} {z:Int} {u:Value} (h:za w b o z) (hb:But [g] w w') (hn:b≠g) (hc:w.cell? ⟨g,0,none⟩=some u) (hu:qew u):za w' b o z:=by
 obtain⟨h0,v,h1,h2⟩:=h
 exact⟨hb.ag h0 (by simpa using hn),v,hb.ag h1 (by simpa using hn),h2.over hb hc (fun n e=>hu.2 n e)⟩
theorem zi.zwa {w w':World} {b g:Nat} {f:Rat} {u:Value} (h:zi w b f) (hb:But [g] w w') (hc:w.cell? ⟨g,0,none⟩=some u) (hu:qew u):zi w' b f:=by(
 have hn:b≠g:=fun e=>by
  subst e
  have h1:=h.up.1
  rw[hc] at h1
  exact hu.1 _ (Option.some.inj h1)
 exact⟨h.up.zwa hb hn hc hu,h.low.zwa hb hn hc hu,h.sa.but hb (by simpa using hn),h.sb.but hb (by simpa using hn)⟩)
theorem zyr (q:Option Addr):qew (.pointer q):=⟨fun s e=>by simp at e,fun n e=>by simp at e⟩
def zix (w:World) (v:Value) (f:Rat):Prop:=∃ g,v=.pointer (some ⟨g,0,none⟩)∧zi w g f
theorem zix.but {w w':World} {v:Value} {f:Rat} (h:zix w v f) (hb:But [] w w'):zix w' v f:=h.elim fun g ⟨e,h⟩=>⟨g,e,h.but hb⟩
def jl (w:World) (v:Value) (fs:List Rat):Prop:=∃ a cap,v=.slice a fs.length cap∧fs.length≤cap∧∀ (i:Nat) (f:Rat),fs[i]? = some f→∃ b off u,a=some ⟨b,off,none⟩∧w.cell? ⟨b,off+i,none⟩=some u∧zix w u f
theorem jl.but {w w':World} {v:Value} {fs:List Rat} (h:jl w v fs) (hb:But [] w w'):jl w' v fs:=by(
 obtain⟨a,cap,e,h1,h2⟩:=h
 refine⟨a,cap,e,h1,fun i f hi=>?_⟩
 obtain⟨b,off,u,h3,h4,h5⟩:=h2 i f hi
 exact⟨b,off,u,h3,hb.ag h4 (by simp),h5.but hb⟩)
theorem jl.open {w:World} {v:Value} {fs:List Rat} (h:jl w v fs):∃ a cap,v=.slice a fs.length cap∧fs.length≤cap:=by
 obtain⟨a,cap,e,h1,-⟩:=h
 exact⟨a,cap,e,h1⟩
theorem jl.at {w:World} {a:Option Addr} {n cap:Nat} {fs:List Rat} (h:jl w (.slice a n cap) fs) (i:Nat) (hi:i<n):n=fs.length∧∃ b off g f,a=some ⟨b,off,none⟩∧w.cell? ⟨b,off+i,none⟩=some (.pointer (some ⟨g,0,none⟩))∧fs[i]? = some f∧zi w g f:=by(
 obtain⟨a',cap',e,h1,h2⟩:=h
 simp only[Value.slice.injEq] at e
 obtain⟨rfl,rfl,rfl⟩:=e
 obtain⟨b,off,u,h3,h4,g,rfl,h5⟩:=h2 i _ (List.getElem?_eq_getElem hi)
 exact⟨rfl,b,off,g,_,h3,h4,List.getElem?_eq_getElem hi,h5⟩)
theorem qdb:∃ i,prog.info? 37 = some i∧i.zero=some (.pointer none)∧i.size=1∧i.bytes=8:=by(
 have h:(prog.info? 37).map (fun i=>(i.zero,i.size,i.bytes))=some (some (.pointer none),1,8):=by kernel_rfl
 cases e:prog.info? 37 with
 | none=>rw[e] at h;simp at h
 | some i =>
  rw[e] at h
  simp only[Option.map_some,Option.some.injEq,Prod.mk.injEq] at h
  exact⟨i,rfl,h.1,h.2.1,h.2.2⟩)
structure zez (w:World) (base:Nat) (v:Value) (fs:List Rat) (us:List Value):Prop where
 own:w.ownsRow base 37 1 v fs.length us
 len:us.length=fs.length
 val:∀ (i:Nat) (f:Rat),fs[i]? = some f→∃ u,us[i]? = some u∧zix w u f
 nil:fs=[]→v=.slice none 0 0
theorem zez.empty (w:World) (base:Nat):zez w base (.slice none 0 0) [] []:=⟨World.ownsRow_nil _ _ _ _,rfl,fun i f h=>by simp at h,fun _=>rfl⟩
theorem zez.but {w w':World} {base:Nat} {v:Value} {fs:List Rat} {us:List Value} (h:zez w base v fs us) (hb:But [] w w'):zez w' base v fs us :=
 ⟨zif h.own hb,h.len,fun i f hi=>(h.val i f hi).elim fun u ⟨e,p⟩=>⟨u,e,p.but hb⟩,h.nil⟩
theorem zez.form {w:World} {base:Nat} {v:Value} {fs:List Rat} {us:List Value} (h:zez w base v fs us):∃ a c,v=.slice a fs.length c:=ownsRow_form h.own
theorem zez.block {w:World} {base:Nat} {v:Value} {fs:List Rat} {us:List Value} (h:zez w base v fs us) (h0:fs≠[]):∃ g cap,v=.slice (some ⟨g,0,none⟩) fs.length cap∧fs.length≤cap∧base≤g∧v.ownBlock=some g∧∃ q,w.cell? ⟨g,0,none⟩=some (.pointer q):=by(
 have hl:0<fs.length:=List.length_pos_iff.2 h0
 rcases h.own.2 with ⟨-,e⟩|⟨g,cap,cur,e,h1,h2,h3,-⟩
 ·omega
 ·refine⟨g,cap,e,h3,h1,by rw[e];rfl,?_⟩
  obtain⟨u,hu,b,rfl,-⟩:=h.val 0 _ (List.getElem?_eq_getElem hl)
  have hc:=h.own.cells (g:=g) (by rw[e];rfl) 0 _ hu
  exact⟨_,by simpa [Addr.add] using hc⟩)
theorem zez.qju {w:World} {base:Nat} {v:Value} {fs:List Rat} {us:List Value} (h:zez w base v fs us):jl w v fs:=by(
 by_cases h0:fs=[]
 ·subst h0
  rw[h.nil rfl]
  exact⟨none,0,rfl,Nat.le_refl _,fun i x hx=>by simp at hx⟩
 ·(
 obtain⟨g,cap,e,h3,-,e2,-⟩:=h.block h0
 refine⟨_,cap,e,h3,fun i f hi=>?_⟩
 obtain⟨u,hu,hp⟩:=h.val i f hi
 refine⟨g,0,u,rfl,?_,hp⟩
 have hc:=h.own.cells (g:=g) (by rw[e];rfl) i u hu
 have ea:(⟨g,0,none⟩:Addr).add i=⟨g,0+i,none⟩:=by
  by_cases hz:i=0
  ·simp[Addr.add,hz]
  ·simp[Addr.add,hz]
 rw[ea] at hc
 exact hc))
theorem zuv (w w0:World) (v:Value) (fs:List Rat) (us:List Value) (base:Nat) (hown:zez w base v fs us) (g:Nat) (u:Value) (f:Rat) (c:w.cell? ⟨g,0,none⟩=some u) (hp:zix w u f) (hk:fs.length<1000000) (h0:But [] w0 w) (hb:w0.heap.size≤base) (hw:base≤w.heap.size) :
   ∃ v' w',(Builtin.append_ #[42,42] 42 #[v,.slice (some ⟨g,0,none⟩) 1 1]).run prog w=.ok v' w'∧zez w' base v' (fs++[f]) (us++[u])∧But [] w0 w'∧But v.ownBlock.toList w w'∧w.heap.size≤w'.heap.size∧(∀ (b:Nat) (r:Rat),zi w b r→zi w' b r):=by(
 obtain⟨i0,hi,hz0,hz1,hz2⟩:=qdb
 obtain⟨v',w',hr,ho,hg,-⟩:=run_append_own (P:=prog) w base 42 42 37 i0 _ 1 8 underlying42 hi hz0 hz1 hz2 rfl (by decide) v fs.length us hown.own ⟨g,0,none⟩ 1 1 [u] rfl (fun j x hj=>by
   cases j with
   | zero=>simp at hj;subst hj;exact c
   | succ j=>simp at hj) (fun x hx=>by
   simp only[List.mem_cons,List.not_mem_nil,or_false] at hx
   subst hx
   obtain⟨b,rfl,-⟩:=hp
   rfl) (by unfold maxLen;omega) (by omega) hw
 have hB:But v.ownBlock.toList w w':=⟨hg.os,hg.tape,hg.output,hg.size,fun j hj hn=>hg.block j hj (by
  intro e
  rw[← e] at hn
  simp at hn)⟩
 have stay:∀ (b:Nat) (r:Rat),zi w b r→zi w' b r:=by
  by_cases h1:fs=[]
  ·have:v.ownBlock=none:=by rw[hown.nil h1];rfl
   rw[this] at hB
   exact fun b r h=>h.but hB
  ·obtain⟨gb,cap,-,-,-,e2,q,hq⟩:=hown.block h1
   rw[e2] at hB
   exact fun b r h=>h.zwa hB hq (zyr q)
 have stayP:∀ (x:Value) (r:Rat),zix w x r→zix w' x r:=fun x r ⟨b,e,h⟩=>⟨b,e,stay b r h⟩
 refine⟨v',w',hr,⟨by rw[List.length_append];exact ho,by simp[hown.len],fun i q hi=>?_,fun e=>by simp at e⟩,zgx h0 hown.own hb hg,hB,hg.size,stay⟩
 rcases Nat.lt_or_ge i fs.length with hlt | hge
 ·rw[List.getElem?_append_left hlt] at hi
  obtain⟨x,e1,h1⟩:=hown.val i q hi
  exact⟨x,by rw[List.getElem?_append_left (by rw[hown.len];exact hlt)];exact e1,stayP _ _ h1⟩
 ·(
 have hi0:i=fs.length:=by
  have:=(List.getElem?_eq_some_iff.1 hi).1
  simp at this
  omega
 subst hi0
 rw[List.getElem?_append_right (Nat.le_refl _),Nat.sub_self] at hi
 simp only[List.getElem?_cons_zero,Option.some.injEq] at hi
 subst hi
 refine⟨u,?_,stayP _ _ hp⟩
 rw[List.getElem?_append_right (by rw[hown.len];exact Nat.le_refl _),hown.len,Nat.sub_self]
 rfl))
def wh (w:World) (b:Nat):Prop:=za w b 0 0∧w.cell? ⟨b,2,none⟩=some (.bool false)∧w.cell? ⟨b,3,none⟩=some (.slice none 0 0)
theorem wh.but {w w':World} {b:Nat} (h:wh w b) (hb:But [] w w'):wh w' b:=⟨h.1.but hb,hb.ag h.2.1 (by simp),hb.ag h.2.2 (by simp)⟩
theorem wh.lt {w:World} {b:Nat} (h:wh w b):b<w.heap.size:=h.1.lt
theorem zzx (w:World) (t:TypeId):wh (w.alloc (.cells #[.bool false,.slice none 0 0,.bool false,.slice none 0 0] t)) w.heap.size:=by(
 refine⟨⟨by simp,.slice none 0 0,by simp,?_⟩,by simp,by simp⟩
 have h0:wd 4294967296 (0:Int).natAbs=[]:=by rw[ve (by omega)];rfl
 rw[h0]
 exact⟨none,0,rfl,Nat.le_refl _,fun i hi=>by simp at hi,fun b off e h1=>by simp at h1⟩)
theorem zhw (b:Nat) (w:World) (h:wh w b) :
   Calls prog 83 #[.pointer (some ⟨b,0,none⟩)] w fun e w'=>∃ q,e=.returned (.pointer (some ⟨q,0,none⟩))∧w.heap.size≤q∧But [] w w'∧za w' q 0 1:=by(
 obtain⟨-,c2,c3⟩:=h
 go_enter func83,ntmps83
 go_wp2_with fail
 refine (si 1 _ (by omega) (by omega)).mono ?_
 rintro e w1 ⟨rfl,hb,hI,-⟩
 go_wp2
 go_ret
 exact⟨_,rfl,Nat.le_refl _,hb,hI⟩)
theorem zeh (A b1 o1 b2 o2:Nat) (x y z:Int) (hz:x*y=z) (w P:World) (hs:Slot P A 0) (hw:But [] w P) (hA:w.heap.size≤A) (hx:za P b1 o1 x) (hy:za P b2 o2 y) (n1:A≠b1) (n2:A≠b2) (hlx:(wd 4294967296 x.natAbs).length<8388608) (hly:(wd 4294967296 y.natAbs).length<8388608) (hlz:(wd 4294967296 z.natAbs).length<8388608) :
   Calls prog 85 #[.pointer (some ⟨A,0,none⟩),.pointer (some ⟨b1,o1,none⟩),.pointer (some ⟨b2,o2,none⟩)] P fun e W1=>e=.returned (.pointer (some ⟨A,0,none⟩))∧But [] w W1∧za W1 A 0 z∧(∀ B,B≠A→Slot P B 0→Slot W1 B 0)∧(∀ b o z,b≠A→za P b o z→za W1 b o z)∧P.heap.size≤W1.heap.size:=by(
 refine (zkw A 0 b1 o1 b2 o2 x y P hs n1 n2 hx hy (by omega) (by omega) (by rw[← Int.natAbs_mul,hz];omega)).mono ?_
 rintro e W1 ⟨rfl,w1,v,hb,hv,rfl⟩
 rw[hz] at hv ⊢
 have hs1:=hs.but hb (by simp)
 exact⟨rfl,(hw.trans' hb).trans (zbn ..) (by simp;exact hA),zbm hs1 _ _ hv,fun B hB hS=>kv _ _ (hS.but hb (by simp)) (.inl hB),fun b o z' hB hI=>yu hs1 _ _ (hI.but hb) (.inl hB),by rw[zet];exact hb.size⟩)
theorem yo.stay {W:World} {P Q R:Int} {b0 b1 b8:Nat} {a0 a1 a8 p q r z:Bool} {w w':World} (h:yo W P Q R b0 b1 b8 a0 a1 a8 p q r z w) (hb:But [] w w'):yo W P Q R b0 b1 b8 a0 a1 a8 p q r z w' :=
 ⟨h.but.trans' hb,fun e=>⟨(h.s0 e).1,Nat.lt_of_lt_of_le (h.s0 e).2.1 hb.size,fun k=>((h.s0 e).2.2 k).but hb (by simp)⟩,fun e=>⟨(h.s1 e).1,Nat.lt_of_lt_of_le (h.s1 e).2.1 hb.size,fun k=>((h.s1 e).2.2 k).but hb (by simp)⟩,fun e=>⟨(h.s8 e).1,Nat.lt_of_lt_of_le (h.s8 e).2.1 hb.size,fun k=>((h.s8 e).2.2 k).but hb (by simp)⟩,
  h.n01,h.n08,h.n18,fun e=>⟨(h.hp e).1,(h.hp e).2.but hb⟩,fun e=>⟨(h.hq e).1,(h.hq e).2.but hb⟩,fun e=>⟨(h.hr e).1,(h.hr e).2.but hb⟩,h.hz⟩
def qih (xb yb:Nat) (N:Nat × Nat × Nat × Nat) (i:Nat):Value:=match i with
 | 0=>.pointer (some ⟨N.1,0,none⟩)
 | 1=>.pointer (some ⟨N.2.1,0,none⟩)
 | 2=>.pointer (some ⟨xb,0,none⟩)
 | 3=>.pointer (some ⟨xb,0,none⟩)
 | 4=>.pointer (some ⟨xb,0,none⟩)
 | 5=>.pointer (some ⟨yb,0,none⟩)
 | 6=>.pointer (some ⟨yb,2,none⟩)
 | 7=>.pointer (some ⟨N.2.1,0,none⟩)
 | 8=>.pointer (some ⟨N.2.2.1,0,none⟩)
 | 9=>.pointer (some ⟨yb,0,none⟩)
 | 10=>.pointer (some ⟨yb,0,none⟩)
 | 11=>.pointer (some ⟨yb,0,none⟩)
 | 12=>.pointer (some ⟨xb,0,none⟩)
 | 13=>.pointer (some ⟨N.2.2.2,0,none⟩)
 | 14=>.pointer (some ⟨N.2.2.1,0,none⟩)
 | 15=>.pointer (some ⟨N.1,0,none⟩)
 | _=>.pointer (some ⟨N.1,0,none⟩)
theorem qgl:zfm ja [(3,2),(4,3),(6,5),(7,1),(7,4),(7,6),(10,9),(11,10),(13,7),(13,12),(14,8),(14,11),(14,13),(15,0),(15,7),(15,14),(16,0),(16,1),(16,2),(16,3),(16,4),(16,5),(16,6),(16,7),(16,8),(16,9),(16,10),(16,11),(16,12),(16,13),(16,14),(16,15)]=true:=by kernel_rfl
theorem zve (id:Nat) (Q:Exit→Act→World→Prop) (base:Act) (W0:World) (xb yb:Nat) (x y P Z R:Int) (nx ny:Nat) (hs:23<base.tmps.size) (e1:base.eval (.tmp 1)=.pointer (some ⟨xb,0,none⟩)) (e2:base.eval (.tmp 2)=.pointer (some ⟨yb,0,none⟩))
   (hx:wh W0 xb) (hx0:x=0) (hnx1:(nx:Int)=1) (hy:zx W0 yb y (ny:Int)) (hny:0<ny) (hxl:(wd 4294967296 x.natAbs).length<8388608) (hyl:(wd 4294967296 y.natAbs).length<8388608) (hnxl:(wd 4294967296 nx).length<8388608) (hnyl:(wd 4294967296 ny).length<8388608) (hP:x*(ny:Int)=P) (hZ:y*(nx:Int)=Z) (hR:R=P+Z) (hPl:(wd 4294967296 P.natAbs).length<8388608) (hZl:(wd 4294967296 Z.natAbs).length<8388608) (hRl:(wd 4294967296 R.natAbs).length<8388608)
   (hQ:∀ w b0 b1 b8 bd,But [] W0 w→W0.heap.size≤b0→za w b0 0 R→Q .normal (bi base [(8,.pointer (some ⟨b0,0,none⟩)),(9,.pointer (some ⟨b1,0,none⟩)),(10,.pointer (some ⟨xb,0,none⟩)),(11,.pointer (some ⟨xb,0,none⟩)),(12,.pointer (some ⟨xb,0,none⟩)),(13,.pointer (some ⟨yb,0,none⟩)),(14,.pointer (some ⟨yb,2,none⟩)),(15,.pointer (some ⟨b1,0,none⟩)),(16,.pointer (some ⟨b8,0,none⟩)),(17,.pointer (some ⟨yb,0,none⟩)),(18,.pointer (some ⟨yb,0,none⟩)),(19,.pointer (some ⟨yb,0,none⟩)),(20,.pointer (some ⟨xb,0,none⟩)),(21,.pointer (some ⟨bd,0,none⟩)),(22,.pointer (some ⟨b8,0,none⟩)),(23,.pointer (some ⟨b0,0,none⟩)),(7,.pointer (some ⟨b0,0,none⟩))]) w) :
   (Code.region id ja true).wp prog Q base W0:=by(
 have hdr:∀ {w},But [] W0.drew w→But [] W0 w:=fun h=>(But.refl _ _).drew.trans' h
 have hT:∀ i,i<17→zdr i<base.tmps.size:=fun i hi=>by
  have h:zdr i≤23:=by revert i;decide
  omega
 have lx:=hx.lt
 have ly:=hy.lt
 refine zfy (by kernel_rfl) (zcb (by kernel_rfl)) (zwt (by kernel_rfl)) (α:=Nat × Nat × Nat × Nat) (fun N d w=>yo W0.drew P Z R N.1 N.2.1 N.2.2.1 (d 0) (d 1) (d 8) (d 7) (d 14) (d 15) (d 16) w∧(d 13=true→d 14=false→za w N.2.2.2 0 (nx:Int)∧(d 8=true→N.2.2.2≠N.2.2.1))) (qih xb yb) zdr 17 (by kernel_rfl) znt hT (0,0,0,0) ?_ ?_ ?_
 ·exact⟨⟨But.refl _ _,by simp,by simp,by simp,by simp,by simp,by simp,by simp,by simp,by simp,by simp⟩,fun h=>by simp at h⟩
 ·(
 rintro ⟨b0,b1,b8,bd⟩ d i o a w K hi ho hdi hCl hH he hdep hk
 have hH':yo W0.drew P Z R b0 b1 b8 (d 0) (d 1) (d 8) (d 7) (d 14) (d 15) (d 16) w:=hH.1
 have hX:d 13=true→d 14=false→za w bd 0 (nx:Int)∧(d 8=true→bd≠b8):=hH.2
 have hD:=qdo (ps:=[(3,2),(4,3),(6,5),(7,1),(7,4),(7,6),(10,9),(11,10),(13,7),(13,12),(14,8),(14,11),(14,13),(15,0),(15,7),(15,14),(16,0),(16,1),(16,2),(16,3),(16,4),(16,5),(16,6),(16,7),(16,8),(16,9),(16,10),(16,11),(16,12),(16,13),(16,14),(16,15)]) (by kernel_rfl) ho (fun j=>d j=true∧a.eval (.tmp (zdr j))=qih xb yb (b0,b1,b8,bd) j) hdep
 have e1':=(he 1 (fun j hj e=>absurd e.symm (by revert j;decide))).trans e1
 have e2':=(he 2 (fun j hj e=>absurd e.symm (by revert j;decide))).trans e2
 have hB:=hdr hH'.but
 have hlw:=hB.size
 have:i=0∨i=1∨i=2∨i=3∨i=4∨i=5∨i=6∨i=7∨i=8∨i=9∨i=10∨i=11∨i=12∨i=13∨i=14∨i=15∨i=16:=by omega
 rcases this with rfl|rfl|rfl|rfl|rfl|rfl|rfl|rfl|rfl|rfl|rfl|rfl|rfl|rfl|rfl|rfl|rfl
 ·(
 obtain rfl:=so (show ja[0]? =some qet from rfl) ho
 rw[hdi] at hH'
 refine zu (rz a w _ _ _ _) (hk (w.heap.size,b1,b8,bd) _ _ rfl (fun j hj hdj=>?_) ⟨hH'.qei _,fun h1 h2=>⟨(hX h1 h2).1.but ((But.refl _ _).alloc _),(hX h1 h2).2⟩⟩)
 have:j=0∨j=1∨j=2∨j=3∨j=4∨j=5∨j=6∨j=7∨j=8∨j=9∨j=10∨j=11∨j=12∨j=13∨j=14∨j=15∨j=16:=by omega
 rcases this with rfl|rfl|rfl|rfl|rfl|rfl|rfl|rfl|rfl|rfl|rfl|rfl|rfl|rfl|rfl|rfl|rfl
 all_goals first
  | rfl
  | (rw[hdi] at hdj;simp at hdj)
  | (exfalso;first | (have:=(hH'.hr hdj).1;simp at this) | (have:=(hH'.hr (hH'.hz hdj)).1;simp at this)))
 ·(
 obtain rfl:=so (show ja[1]? =some qes from rfl) ho
 rw[hdi] at hH'
 refine zu (rz a w _ _ _ _) (hk (b0,w.heap.size,b8,bd) _ _ rfl (fun j hj hdj=>?_) ⟨hH'.qeh _,fun h1 h2=>⟨(hX h1 h2).1.but ((But.refl _ _).alloc _),(hX h1 h2).2⟩⟩)
 have:j=0∨j=1∨j=2∨j=3∨j=4∨j=5∨j=6∨j=7∨j=8∨j=9∨j=10∨j=11∨j=12∨j=13∨j=14∨j=15∨j=16:=by omega
 rcases this with rfl|rfl|rfl|rfl|rfl|rfl|rfl|rfl|rfl|rfl|rfl|rfl|rfl|rfl|rfl|rfl|rfl
 all_goals first
  | rfl
  | (rw[hdi] at hdj;simp at hdj)
  | (exfalso;have:=(hH'.hp hdj).1;simp at this))
 ·obtain rfl:=so (show ja[2]? =some qer from rfl) ho
  exact zu (l5 a w _ _ _ _ _ _ e1') (hk (b0,b1,b8,bd) _ _ rfl (fun _ _ _=>rfl) hH)
 ·obtain rfl:=so (show ja[3]? =some qeq from rfl) ho
  exact zu (zfw a w _ _ _ _ _ _ 0 (hD 2 (by simp)).2) (hk (b0,b1,b8,bd) _ _ rfl (fun _ _ _=>rfl) hH)
 ·obtain rfl:=so (show ja[4]? =some qep from rfl) ho
  exact zu (zda a w _ _ _ _ _ _ (hD 3 (by simp)).2 (by omega)) (hk (b0,b1,b8,bd) _ _ rfl (fun _ _ _=>rfl) hH)
 ·obtain rfl:=so (show ja[5]? =some qeo from rfl) ho
  exact zu (l5 a w _ _ _ _ _ _ e2') (hk (b0,b1,b8,bd) _ _ rfl (fun _ _ _=>rfl) hH)
 ·obtain rfl:=so (show ja[6]? =some qen from rfl) ho
  refine xw (zbj a w _ _ _ _ _ _ (hD 5 (by simp)).2) (R:=fun w' v=>v=.pointer (some ⟨yb,2,none⟩)∧w'=w) ((yc yb y ny w (hy.but hB) hny).mono (fun e w' h=>⟨_,h.1,rfl,h.2⟩)) ?_
  rintro v w' ⟨rfl,rfl⟩
  exact hk (b0,b1,b8,bd) _ _ rfl (fun _ _ _=>rfl) hH
 ·(
 obtain rfl:=so (show ja[7]? =some qem from rfl) ho
 have hs1:=hH'.s1 (hD 1 (by simp)).1
 rw[hdi] at hs1
 refine xw (zak a w _ _ _ _ _ _ _ _ _ _ (hD 1 (by simp)).2 (hD 4 (by simp)).2 (hD 6 (by simp)).2) (R:=fun w' v=>v=.pointer (some ⟨b1,0,none⟩)∧But [] W0.drew w'∧za w' b1 0 P∧(∀ B,B≠b1→Slot w B 0→Slot w' B 0)∧(∀ b o z',b≠b1→za w b o z'→za w' b o z')∧w.heap.size≤w'.heap.size) ((jh b1 xb 0 yb 2 x (ny:Int) P hP W0.drew w (hs1.2.2 rfl) hH'.but hs1.1 (by rw[hx0];exact hx.1) hy.drew.low hxl (by rw[Int.natAbs_natCast];exact hnyl) hPl).mono (fun e w' h=>⟨_,h.1,rfl,h.2⟩)) ?_
 rintro v w' ⟨rfl,k1,k2,k3,k4,k5⟩
 rw[hdi,(hD 1 (by simp)).1] at hH'
 refine hk (b0,b1,b8,bd) _ _ rfl (fun _ _ _=>rfl) ⟨?_,fun h1=>absurd ((hCl.not qgl (i:=13) (j:=7) (by simp) hdi).symm.trans h1) (by simp)⟩
 show yo W0.drew P Z R b0 b1 b8 (d 0) (d 1) (d 8) true (d 14) (d 15) (d 16) w'
 rw[(hD 1 (by simp)).1]
 exact hH'.qjl k1 k2 k3 k4 k5)
 ·(
 obtain rfl:=so (show ja[8]? =some qel from rfl) ho
 rw[hdi] at hH'
 refine zu (rz a w _ _ _ _) (hk (b0,b1,w.heap.size,bd) _ _ rfl (fun j hj hdj=>?_) ⟨hH'.qeg _,fun h1 h2=>⟨(hX h1 h2).1.but ((But.refl _ _).alloc _),fun _=>Nat.ne_of_lt (hX h1 h2).1.lt⟩⟩)
 have:j=0∨j=1∨j=2∨j=3∨j=4∨j=5∨j=6∨j=7∨j=8∨j=9∨j=10∨j=11∨j=12∨j=13∨j=14∨j=15∨j=16:=by omega
 rcases this with rfl|rfl|rfl|rfl|rfl|rfl|rfl|rfl|rfl|rfl|rfl|rfl|rfl|rfl|rfl|rfl|rfl
 all_goals first
  | rfl
  | (rw[hdi] at hdj;simp at hdj)
  | (exfalso;have:=(hH'.hq hdj).1;simp at this))
 ·obtain rfl:=so (show ja[9]? =some qek from rfl) ho
  exact zu (l5 a w _ _ _ _ _ _ e2') (hk (b0,b1,b8,bd) _ _ rfl (fun _ _ _=>rfl) hH)
 ·obtain rfl:=so (show ja[10]? =some zvd from rfl) ho
  exact zu (zfw a w _ _ _ _ _ _ 0 (hD 9 (by simp)).2) (hk (b0,b1,b8,bd) _ _ rfl (fun _ _ _=>rfl) hH)
 ·obtain rfl:=so (show ja[11]? =some zvc from rfl) ho
  exact zu (zda a w _ _ _ _ _ _ (hD 10 (by simp)).2 (by omega)) (hk (b0,b1,b8,bd) _ _ rfl (fun _ _ _=>rfl) hH)
 ·obtain rfl:=so (show ja[12]? =some zvb from rfl) ho
  exact zu (l5 a w _ _ _ _ _ _ e1') (hk (b0,b1,b8,bd) _ _ rfl (fun _ _ _=>rfl) hH)
 ·(
 obtain rfl:=so (show ja[13]? =some zva from rfl) ho
 refine xw (zbj a w _ _ _ _ _ _ (hD 12 (by simp)).2) (R:=fun w' v=>∃ q,v=.pointer (some ⟨q,0,none⟩)∧w.heap.size≤q∧But [] w w'∧za w' q 0 1) ((zhw xb w (hx.but hB)).mono (fun e w' ⟨q,h1,h2,h3,h4⟩=>⟨_,h1,q,rfl,h2,h3,h4⟩)) ?_
 rintro v w' ⟨q,rfl,hq,hb,hI⟩
 refine hk (b0,b1,b8,q) _ _ rfl (fun j hj hdj=>?_) ⟨hH'.stay hb,fun _ _=>⟨by rw[hnx1];exact hI,fun h8=>Ne.symm (Nat.ne_of_lt (Nat.lt_of_lt_of_le (hH'.s8 h8).2.1 hq))⟩⟩
 have:j=0∨j=1∨j=2∨j=3∨j=4∨j=5∨j=6∨j=7∨j=8∨j=9∨j=10∨j=11∨j=12∨j=13∨j=14∨j=15∨j=16:=by omega
 rcases this with rfl|rfl|rfl|rfl|rfl|rfl|rfl|rfl|rfl|rfl|rfl|rfl|rfl|rfl|rfl|rfl|rfl
 all_goals first
  | rfl
  | (rw[hdi] at hdj;simp at hdj))
 ·(
 obtain rfl:=so (show ja[14]? =some zuz from rfl) ho
 have hs1:=hH'.s8 (hD 8 (by simp)).1
 rw[hdi] at hs1
 refine xw (zak a w _ _ _ _ _ _ _ _ _ _ (hD 8 (by simp)).2 (hD 11 (by simp)).2 (hD 13 (by simp)).2) (R:=fun w' v=>v=.pointer (some ⟨b8,0,none⟩)∧But [] W0.drew w'∧za w' b8 0 Z∧(∀ B,B≠b8→Slot w B 0→Slot w' B 0)∧(∀ b o z',b≠b8→za w b o z'→za w' b o z')∧w.heap.size≤w'.heap.size) ((zeh b8 yb 0 bd 0 y (nx:Int) Z hZ W0.drew w (hs1.2.2 rfl) hH'.but hs1.1 ((za.drew hy.up).but hH'.but) (hX (hD 13 (by simp)).1 hdi).1 (Ne.symm (Nat.ne_of_lt (Nat.lt_of_lt_of_le ly hs1.1))) (Ne.symm ((hX (hD 13 (by simp)).1 hdi).2 (hD 8 (by simp)).1)) hyl (by rw[Int.natAbs_natCast];exact hnxl) hZl).mono (fun e w' h=>⟨_,h.1,rfl,h.2⟩)) ?_
 rintro v w' ⟨rfl,k1,k2,k3,k4,k5⟩
 rw[hdi,(hD 8 (by simp)).1] at hH'
 refine hk (b0,b1,b8,bd) _ _ rfl (fun _ _ _=>rfl) ⟨?_,fun _ h2=>absurd h2 (by rw[mh];simp)⟩
 show yo W0.drew P Z R b0 b1 b8 (d 0) (d 1) (d 8) (d 7) true (d 15) (d 16) w'
 rw[(hD 8 (by simp)).1]
 exact hH'.qjk k1 k2 k3 k4 k5)
 ·(
 obtain rfl:=so (show ja[15]? =some zuy from rfl) ho
 have d0:=(hD 0 (by simp)).1
 have hs1:=hH'.s0 d0
 rw[hdi] at hs1
 have hp7:=hH'.hp (hD 7 (by simp)).1
 have hq14:=hH'.hq (hD 14 (by simp)).1
 refine xw (zfx a w _ _ _ _ _ _ _ _ _ _ (hD 0 (by simp)).2 (hD 7 (by simp)).2 (hD 14 (by simp)).2) (R:=fun w' v=>v=.pointer (some ⟨b0,0,none⟩)∧But [] W0.drew w'∧za w' b0 0 R∧(∀ B,B≠b0→Slot w B 0→Slot w' B 0)∧(∀ b o z',b≠b0→za w b o z'→za w' b o z')∧w.heap.size≤w'.heap.size) ((zir b0 0 b1 0 b8 0 P Z R w (hs1.2.2 rfl) (hH'.n01 d0 hp7.1) (hH'.n08 d0 hq14.1) hp7.2 hq14.2 hPl hZl (by omega) hR).mono (fun e w' h=>by
  obtain⟨h1,w1,v,h2,h3,rfl⟩:=h
  exact⟨_,h1,rfl,zkv (hs1.2.2 rfl) hH'.but hs1.1 h2 h3⟩)) ?_
 rintro v w' ⟨rfl,k1,k2,k3,k4,k5⟩
 rw[hdi,d0] at hH'
 refine hk (b0,b1,b8,bd) _ _ rfl (fun _ _ _=>rfl) ⟨?_,fun _ h2=>absurd ((hD 14 (by simp)).1.symm.trans h2) (by simp)⟩
 show yo W0.drew P Z R b0 b1 b8 (d 0) (d 1) (d 8) (d 7) (d 14) true (d 16) w'
 rw[d0]
 exact hH'.zby k1 k2 k3 k4 k5)
 ·(
 obtain rfl:=so (show ja[16]? =some zux from rfl) ho
 have d15:=(hD 15 (by simp)).1
 rw[d15] at hH'
 refine zu (zql a w _ _ _ _ _ _ (hD 15 (by simp)).2) (hk (b0,b1,b8,bd) _ _ rfl (fun _ _ _=>rfl) ⟨?_,fun _ h2=>absurd ((hD 14 (by simp)).1.symm.trans h2) (by simp)⟩)
 show yo W0.drew P Z R b0 b1 b8 (d 0) (d 1) (d 8) (d 7) (d 14) (d 15) true w
 rw[d15]
 exact hH'.done))
 ·rintro ⟨b0,b1,b8,bd⟩ d w hd hH
  have hH':yo W0.drew P Z R b0 b1 b8 (d 0) (d 1) (d 8) (d 7) (d 14) (d 15) (d 16) w:=hH.1
  exact hQ w b0 b1 b8 bd (hdr hH'.but) (hH'.s0 (hd 0 (by omega))).1 (hH'.hr (hd 15 (by omega))).2)
theorem zqy (zb xb yb:Nat) (x y:Int) (nx ny:Nat) (w:World) (hz0:Slot w zb 0) (hz2:Slot w zb 2) (hx:wh w xb) (hx0:x=0) (hnx1:(nx:Int)=1) (hy:zx w yb y (ny:Int)) (hny:0<ny) (hxl:(wd 4294967296 x.natAbs).length<8388608) (hyl:(wd 4294967296 y.natAbs).length<8388608) (hnxl:(wd 4294967296 nx).length<8388608) (hnyl:(wd 4294967296 ny).length<8388608) (P Z R D:Int) (hP:x*(ny:Int)=P) (hZ:y*(nx:Int)=Z) (hR:R=P+Z) (hD:(nx:Int)*(ny:Int)=D) (hPl:(wd 4294967296 P.natAbs).length<8388608) (hZl:(wd 4294967296 Z.natAbs).length<8388608) (hRl:(wd 4294967296 R.natAbs).length<8388608) (hDl:(wd 4294967296 D.natAbs).length<8388608) (hD0:D≠0) (A B:Int) (eA:Hid (A=zch (if D<0 then -R else R) D.natAbs)) (eB:Hid (B=zci R D.natAbs)) :
   Calls prog 162 #[.pointer (some ⟨zb,0,none⟩),.pointer (some ⟨xb,0,none⟩),.pointer (some ⟨yb,0,none⟩)] w fun e w'=>e=.returned (.pointer (some ⟨zb,0,none⟩))∧But [zb] w w'∧zx w' zb A B:=by(
 have HX:=af hx
 have HY:=af hy
 have HZ0:=af hz0
 have HZ2:=af hz2
 have REG:=af (fun (Q:Exit→Act→World→Prop) (base:Act) (hs:23<base.tmps.size) (e1:base.eval (.tmp 1)=.pointer (some ⟨xb,0,none⟩)) (e2:base.eval (.tmp 2)=.pointer (some ⟨yb,0,none⟩))=>zve 1 Q base w xb yb x y P Z R nx ny hs e1 e2 hx hx0 hnx1 hy hny hxl hyl hnxl hnyl hP hZ hR hPl hZl hRl)
 have DX:=af (fun W (h:wh W xb)=>zhw xb W h)
 have DY:=af (fun W (h:zx W yb y (ny:Int))=>yc yb y ny W h hny)
 have MU:=af (fun (A q:Nat) (w P:World) (hs:Slot P A 0) (hw:But [] w P) (hA:w.heap.size≤A) (hx:za P q 0 1) (hy:zx P yb y (ny:Int)) (n1:A≠q) (n2:A≠yb)=>zeh A q 0 yb 2 (nx:Int) (ny:Int) D hD w P hs hw hA (by rw[hnx1];exact hx) hy.low n1 n2 (by rw[Int.natAbs_natCast];exact hnxl) (by rw[Int.natAbs_natCast];exact hnyl) hDl)
 have SF:=af (fun (b0 b1:Nat) (W:World) (h0:Slot W zb 0) (h2:Slot W zb 2) (ha:za W b0 0 R) (hb:za W b1 0 D)=>vw zb b0 0 b1 0 R D W h0 h2 ha hb hRl hDl hD0 A B eA eB)
 clear hx hy hz0 hz2 hny hx0 hnx1 hxl hyl hnxl hnyl hP hZ hR hD hPl hZl hRl hDl hD0 eA eB
 go_enter func162,ntmps162
 go_wp2_with fail
 refine ae REG _ _ (by simp) (by simp[Act.eval]) (by simp[Act.eval]) ?_
 intro w1 b0 b1 b8 bd hb1 hb0 hI
 simp only[bi,List.foldl_cons,List.foldl_nil,Act.put,List.setIfInBounds_toArray,List.set_cons_zero,List.set_cons_succ]
 obtain⟨W0,hW0⟩:∃ W0,W0=w1.alloc (.cells #[.bool false,.slice none 0 0] 111):=⟨_,rfl⟩
 have hs:=jg w1 111
 rw[← hW0] at hs
 have hbw:But [] w1 W0:=by rw[hW0];exact (But.refl _ _).alloc _
 have hb2:=hb1.trans' hbw
 have K0:=af (And.intro hs (And.intro hbw (And.intro hb1 (And.intro hb0 hI))))
 have KX:=af ((ae HX).but hb2)
 have KY:=af ((ae HY).but hb2)
 have HW0:=af hW0
 clear hW0 hs hbw hb1 hb0 hb2 hI
 obtain⟨g,hg⟩:∃ g,g=w1.heap.size:=⟨_,rfl⟩
 go_wp2_with fail
 rw[← ae HW0,← hg]
 rw[← hg] at K0
 have HG:=af hg
 clear hg
 refine (ae DX _ (ae KX)).mono ?_
 rintro e w2 ⟨q,rfl,hq,hbq,hIq⟩
 have hlg:g<W0.heap.size:=(ae K0).1.lt
 have KY2:=af ((ae KY).but hbq)
 have KQ:=af (And.intro hIq (And.intro ((ae K0).1.but hbq (by simp)) (And.intro ((ae K0).2.1.trans' hbq) (Nat.ne_of_lt (Nat.lt_of_lt_of_le hlg hq)))))
 clear hq hbq hIq hlg
 go_wp2_with fail
 refine (ae DY _ (ae KY2)).mono ?_
 rintro e w3 ⟨rfl,hw⟩
 obtain rfl:=hw.symm
 clear hw
 go_wp2_with fail
 refine (ae MU g q w1 w2 (ae KQ).2.1 (ae KQ).2.2.1 (Nat.le_of_eq (ae HG).symm) (ae KQ).1 (ae KY2) (ae KQ).2.2.2 (by
  have h1:=(ae HY).lt
  have h2:=(ae K0).2.2.1.size
  have h3:=ae HG
  omega)).mono ?_
 rintro e w4 ⟨rfl,k1,k2,k3,k4,k5⟩
 have FIN:Hid (Slot w4 zb 0∧Slot w4 zb 2∧za w4 b0 0 R∧za w4 g 0 D∧But [] w w4):=by
  obtain⟨hs,hbw,hb1,hb0,hI⟩:=ae K0
  have hb3:=hb1.trans' k1
  exact⟨(ae HZ0).but hb3 (by simp),(ae HZ2).but hb3 (by simp),hI.but k1,k2,hb3⟩
 clear k1 k2 k3 k4 k5 K0 KX KY KY2 KQ HW0 HG MU DX DY REG HX HY HZ0 HZ2
 go_wp2_with fail
 refine (ae SF b0 g _ (ae FIN).1 (ae FIN).2.1 (ae FIN).2.2.1 (ae FIN).2.2.2.1).mono ?_
 rintro e w3 ⟨rfl,k1,k2⟩
 have F3:=af (And.intro ((ae FIN).2.2.2.2.of_nil.trans k1 (fun x hx=>.inl hx)) k2)
 clear k1 k2 FIN SF
 go_wp2
 go_ret
 exact⟨rfl,(ae F3).1,(ae F3).2⟩)
theorem zol (xb yb:Nat) (f g:Rat) (w:World) (hf0:f=0) (hx:wh w xb) (hy:zi w yb g) (lf:qw f 2000000) (lg:qw g 2000000) :
   Calls prog 82 #[.pointer (some ⟨xb,0,none⟩),.pointer (some ⟨yb,0,none⟩)] w fun e w'=>∃ zb,e=.returned (.pointer (some ⟨zb,0,none⟩))∧But [] w w'∧zi w' zb (f+g)∧w.heap.size≤zb:=by(
 have hfd:0<f.den:=Nat.pos_of_ne_zero f.den_nz
 have hgd:0<g.den:=Nat.pos_of_ne_zero g.den_nz
 have hQ0:(f.den:Int)*(g.den:Int)≠0:=Int.mul_ne_zero (by omega) (by omega)
 obtain⟨e1,e2⟩:=zdc (f.num*(g.den:Int)+g.num*(f.den:Int)) ((f.den:Int)*(g.den:Int)) hQ0 (f+g) (zfn f g)
 obtain⟨W0,hW0⟩:∃ W0,W0=w.alloc (.cells #[.bool false,.slice none 0 0,.bool false,.slice none 0 0] 113):=⟨_,rfl⟩
 have hs:=zaw w 113
 have hbw:But [] w W0:=by rw[hW0];exact (But.refl _ _).alloc _
 rw[← hW0] at hs
 obtain⟨lf1,lf2⟩:=lf
 obtain⟨lg1,lg2⟩:=lg
 have d1:(wd 4294967296 ((f.den:Nat):Int).natAbs).length≤2000000:=by rw[Int.natAbs_natCast];exact lf2
 have d2:(wd 4294967296 ((g.den:Nat):Int).natAbs).length≤2000000:=by rw[Int.natAbs_natCast];exact lg2
 have p1:=jy f.num (g.den:Int) _ _ lf1 d2
 have p2:=jy g.num (f.den:Int) _ _ lg1 d1
 have p3:=jy (f.den:Int) (g.den:Int) _ _ d1 d2
 have p4:=zdg _ _ _ p1 p2
 have MU:=af (zqy w.heap.size xb yb f.num g.num f.den g.den W0 hs.1 hs.2 (hx.but hbw) (by rw[hf0];rfl) (by rw[hf0];rfl) (zx.but hy hbw) hgd (by omega) (by omega) (by omega) (by omega) _ _ _ _ rfl rfl rfl rfl (by omega) (by omega) (by omega) (by omega) hQ0 (f+g).num ((f+g).den:Int) e1 e2)
 have HW0:=af hW0
 have HBW:=af hbw
 clear hW0 hbw hs e1 e2 hQ0 p1 p2 p3 p4 d1 d2 lf1 lf2 lg1 lg2 hx hy hfd hgd
 go_enter func82,ntmps82
 go_wp2_with fail
 rw[← ae HW0]
 refine (ae MU).mono ?_
 rintro e w1 ⟨rfl,h1,h2⟩
 have FIN:=af (And.intro ((ae HBW).trans h1 (by simp)) h2)
 clear h1 h2 MU
 go_wp2
 go_ret
 exact⟨w.heap.size,rfl,(ae FIN).1,(ae FIN).2,Nat.le_refl _⟩)
end Go.Proofs.YtagmkkiagjmimaaGreatDoor
