/- Lists of fractions in memory.  -/
import Derived.Laws.AppendOwn
import Derived.Test.YtffghofheeleeaaGreatDoorKC1
import Derived.Test.YtffghofheeleeaaGreatDoorKF7
namespace Go.Proofs.YtffghofheeleeaaGreatDoor
open Go.Proofs.Tryz
open Go.RowKit
set_option maxHeartbeats 8000000
set_option maxRecDepth 100000
def P4o (w:World) (b o:Nat) (s:Bool) (x y:Int) (p:Option Addr):Prop:=w.cell? ⟨b,o,none⟩=some (.bool s)∧w.cell? ⟨b,o+1,none⟩=some (.int .u64 x)∧w.cell? ⟨b,o+2,none⟩=some (.int .u64 y)∧w.cell? ⟨b,o+3,none⟩=some (.pointer p)
theorem P4o.but {w w':World} {b o:Nat} {s:Bool} {x y:Int} {p:Option Addr} {l:List Nat} (h:P4o w b o s x y p) (hb:But l w w') (hn:b ∉ l):P4o w' b o s x y p:=⟨hb.ag h.1 hn,hb.ag h.2.1 hn,hb.ag h.2.2.1 hn,hb.ag h.2.2.2 hn⟩
theorem Sl.beside {k:IntKind} {w w':World} {v:Value} {xs:List Nat} {l:List Nat} (h:Sl k w v xs) (hb:But l w w') (hc:∀ g ∈ l,∃ i s,w.cell? ⟨g,i,none⟩=some (.bool s)):Sl k w' v xs:=by
 obtain⟨a,cap,rfl,hcp,h,hi⟩:=h
 rcases Nat.eq_zero_or_pos xs.length with h0 | h0
 ·exact⟨a,cap,rfl,hcp,fun i hi=>by omega,fun b off e h1=>by omega⟩
 ·refine Sl.but (xs:=xs) ⟨a,cap,rfl,hcp,h,hi⟩ hb (fun b off cap' n e hm=>?_)
  simp only[Value.slice.injEq] at e
  obtain⟨rfl,-,-⟩:=e
  obtain⟨i,s,hs⟩:=hc b hm
  exact (hi _ _ rfl h0).ne hs (by simp) rfl
theorem aq.beside {w W:World} {v:Value} {f:Rat} {l:List Nat} (h:aq w v f) (hb:But l w W) (hc:∀ g ∈ l,∃ s,w.cell? ⟨g,0,none⟩=some (.bool s)):aq W v f:=by
 rcases h with h1|⟨h1,b,v1,v2,h2,h3,h4,h5,h6⟩
 ·exact .inl h1
 ·have hbg:b ∉ l:=fun hm=>by
   obtain⟨s,hs⟩:=hc b hm
   obtain⟨a,cap,rfl,-⟩:=h5
   rw[hs] at h3
   simp at h3
  exact .inr ⟨h1,b,v1,v2,h2,hb.ag h3 hbg,hb.ag h4 hbg,h5.beside hb (fun g hg=>⟨0,hc g hg⟩),h6.beside hb (fun g hg=>⟨0,hc g hg⟩)⟩
theorem kz (a:Act) (w:World) (t1 t2:Nat) (u:TypeId) (ps:String) (ed:Array Edge) (g:Nat) (s:Bool) (x y:Int) (p:Option Addr) {s':Bool} {x' y':Int} {p':Option Addr} (h1:a.eval (.tmp t1)=.pointer (some ⟨g,0,none⟩)) (h2:a.eval (.tmp t2)=.agg #[.bool s,.int .u64 x,.int .u64 y,.pointer p]) (hc:P4 w g s' x' y' p') (fz:∀ j,w.frozen? ⟨g,j,none⟩=false) :
  (execOp a.eval { dst:=none,op:=Op.store 27 (.tmp t1) (.tmp t2),type:=u,pos:=ps,after:=ed,guard:=none }).run prog w=.ok .skip ((((w.setCell ⟨g,0,none⟩ (.bool s)).setCell ⟨g,1,none⟩ (.int .u64 x)).setCell ⟨g,2,none⟩ (.int .u64 y)).setCell ⟨g,3,none⟩ (.pointer p)):=by
 obtain⟨c0,c1,c2,c3⟩:=hc
 unfold execOp
 simp only[h1,h2]
 go_simp
def zy (w:World) (g:Nat) (s:Bool) (x y:Int) (p:Option Addr):World:=(((w.setCell ⟨g,0,none⟩ (.bool s)).setCell ⟨g,1,none⟩ (.int .u64 x)).setCell ⟨g,2,none⟩ (.int .u64 y)).setCell ⟨g,3,none⟩ (.pointer p)
theorem ay (w:World) (g:Nat) (s:Bool) (x y:Int) (p:Option Addr):But [g] w (zy w g s x y p):=(((((But.refl [g] w).setCell (.inl (by simp)) _).setCell (.inl (by simp)) _).setCell (.inl (by simp)) _).setCell (.inl (by simp)) _)
theorem jl (w:World) (g:Nat) (s:Bool) (x y:Int) (p:Option Addr) {s':Bool} {x' y':Int} {p':Option Addr} (hc:P4 w g s' x' y' p'):P4 (zy w g s x y p) g s x y p:=by
 obtain⟨h1,-⟩:=zyh w g (.bool s) (.int .u64 x) (.int .u64 y) (.pointer p) (by rw[hc.1];rfl) (by rw[hc.2.1];rfl) (by rw[hc.2.2.1];rfl) (by rw[hc.2.2.2];rfl)
 exact⟨h1 0 (by omega),h1 1 (by omega),h1 2 (by omega),h1 3 (by omega)⟩
theorem zli (w:World) (g:Nat) (s:Bool) (x y:Int) (p:Option Addr) (b j:Nat):(zy w g s x y p).frozen? ⟨b,j,none⟩=w.frozen? ⟨b,j,none⟩:=by
 unfold zy
 simp only[World.frozen?_setCell]
def zmk (ops:Array Oper):Bool:=(List.range ops.size).all fun i=>match ops[i]? with
 | some o=>o.guard.isNone && (match o.op with | .defer _=>false | _=>true)
 | none=>true
theorem mo {ops:Array Oper} (h:zmk ops=true):∀ (i:Nat) (o:Oper),ops[i]? = some o→o.guard=none∧∀ c,o.op≠.defer c:=fun i o ho=>by
 have hi:i<ops.size:=(Array.getElem?_eq_some_iff.1 ho).1
 unfold zmk at h
 rw[List.all_eq_true] at h
 have h1:=h i (List.mem_range.2 hi)
 simp only[ho,Bool.and_eq_true,Option.isNone_iff_eq_none] at h1
 exact⟨h1.1,fun c e=>by rw[e] at h1;simp at h1⟩
theorem j4 {ops:Array Oper} {ps:List (Nat × Nat)} (h:zab ops ps=true) {i:Nat} {o:Oper} (ho:ops[i]? = some o) (R:Nat→Prop) (hdep:∀ e ∈ o.after,Region.binds .any e=true→R e.on) (j:Nat) (hij:(i,j) ∈ ps):R j:=by
 obtain⟨o',ho',ed,hed,hbi,rfl⟩:=vv h i j hij
 rw[ho] at ho'
 obtain rfl:=Option.some.inj ho'
 exact hdep ed hed hbi
def bh (w:World) (g:Nat) (f:Rat):Prop:=(∃ s x y p,P4 w g s x y p∧aq w (.agg #[.bool s,.int .u64 x,.int .u64 y,.pointer p]) f)∧∀ j,w.frozen? ⟨g,j,none⟩=false
theorem bh.but {A B:World} {g:Nat} {f:Rat} (h:bh A g f) (hb:But [] A B):bh B g f:=by
 obtain⟨⟨s,x,y,p,h1,h2⟩,h3⟩:=h
 have hl:g<A.heap.size:=ai h1.1
 exact⟨⟨s,x,y,p,h1.but hb (by simp),h2.but hb⟩,fun j=>(hb.frozen (p:=⟨g,j,none⟩) hl (by simp)).trans (h3 j)⟩
theorem bh.beside {A B:World} {g:Nat} {f:Rat} {l:List Nat} (h:bh A g f) (hb:But l A B) (hn:g ∉ l) (hc:∀ g ∈ l,∃ s,A.cell? ⟨g,0,none⟩=some (.bool s)):bh B g f:=by
 obtain⟨⟨s,x,y,p,h1,h2⟩,h3⟩:=h
 have hl:g<A.heap.size:=ai h1.1
 exact⟨⟨s,x,y,p,h1.but hb hn,h2.beside hb hc⟩,fun j=>(hb.frozen (p:=⟨g,j,none⟩) hl hn).trans (h3 j)⟩
theorem bh.put {w:World} {g:Nat} {f f':Rat} (h:bh w g f) {s:Bool} {x y:Int} {p:Option Addr} (hf:aq w (.agg #[.bool s,.int .u64 x,.int .u64 y,.pointer p]) f'):bh (zy w g s x y p) g f':=by
 obtain⟨⟨s0,x0,y0,p0,h1,h2⟩,h3⟩:=h
 exact⟨⟨s,x,y,p,jl w g s x y p h1,hf.over h1.1 (ay w g s x y p)⟩,fun j=>(zli w g s x y p g j).trans (h3 j)⟩
theorem bh.new (w:World) (s:Bool) (x y:Int) (p:Option Addr) (f:Rat) (t:TypeId) (h:aq w (.agg #[.bool s,.int .u64 x,.int .u64 y,.pointer p]) f):bh (w.alloc (.cells #[.bool s,.int .u64 x,.int .u64 y,.pointer p] t)) w.heap.size f :=
 ⟨⟨s,x,y,p,⟨by simp,by simp,by simp,by simp⟩,h.but ((But.refl _ _).alloc _)⟩,fun j=>by simp⟩
theorem bh.lt {w:World} {g:Nat} {f:Rat} (h:bh w g f):g<w.heap.size:=by
 obtain⟨⟨s,x,y,p,h1,-⟩,-⟩:=h
 exact ai h1.1
theorem bh.bool {w:World} {g:Nat} {f:Rat} (h:bh w g f):∃ s,w.cell? ⟨g,0,none⟩=some (.bool s):=by
 obtain⟨⟨s,x,y,p,h1,-⟩,-⟩:=h
 exact⟨s,h1.1⟩
theorem jb (w:World):aq w (.agg #[.bool false,.int .u64 0,.int .u64 0,.pointer none]) 0:=.inl ⟨by decide,by decide,rfl⟩
structure zsx (X x N:Nat):Prop where
 lo:9223372036854775808≤x
 hi:x < 18446744073709551616
 ge:x*2^N≤X*9223372036854775808
 lt:X*9223372036854775808<(x+1)*2^N
theorem qld (k:Nat) (h:k≤63):2^k*2^(63-k)=9223372036854775808:=by
 rw[← Nat.pow_add,show k+(63-k)=63 from by omega]
theorem qnr (t k:Nat) (hk:k≤63) (h1:9223372036854775808≤t*2^k) (h2:t*2^k < 18446744073709551616):zsx t (t*2^k) (63-k):=by
 have hp:0<2^(63-k):=Nat.pow_pos (by omega)
 refine⟨h1,h2,?_,?_⟩
 ·rw[Nat.mul_assoc,qld k hk];omega
 ·rw[Nat.add_mul,Nat.mul_assoc,qld k hk];omega
theorem qio (X R P m s t k:Nat) (hP:P=18446744073709551616^m) (hX:X=R+P*(s + 18446744073709551616*t)) (hR:R<P) (hs:s < 18446744073709551616) (hk:k≤63) (h1:9223372036854775808≤t*2^k) (h2:t*2^k < 18446744073709551616) :
  zsx X (t*2^k+s/2^(64-k)) (64*(m+1)+63-k)∧s/2^(64-k)<2^k:=by
 have hB:18446744073709551616=2^(64-k)*2^k:=by rw[← Nat.pow_add,show 64-k+k=64 from by omega]
 have hK:0<2^k:=Nat.pow_pos (by omega)
 have hQ:0<2^(64-k):=Nat.pow_pos (by omega)
 have hu:s/2^(64-k)<2^k:=by rw[Nat.div_lt_iff_lt_mul hQ,Nat.mul_comm,← hB];exact hs
 have hd:=Nat.div_add_mod s (2^(64-k))
 have hr:=Nat.mod_lt s hQ
 have e63:=qld k hk
 have hN:2^(64*(m+1)+63-k)=P * 18446744073709551616*2^(63-k):=by
  rw[hP,show 64*(m+1)+63-k=64*m+64+(63-k) from by omega,Nat.pow_add,Nat.pow_add,Nat.pow_mul]
 have hz:0<2^(63-k):=Nat.pow_pos (by omega)
 generalize hu1:s/2^(64-k)=u at *
 generalize s%2^(64-k)=r at *
 generalize 64*(m+1)+63-k=N at *
 generalize 2^(63-k)=z at *
 generalize 2^(64-k)=Q at *
 generalize 2^k=K at *
 have htQ:t<Q:=by rw[hB] at h2;exact Nat.lt_of_mul_lt_mul_right h2
 have hx:t*K+u < 18446744073709551616:=by
  have:(t+1)*K≤Q*K:=Nat.mul_le_mul_right _ htQ
  rw[← hB,Nat.add_mul] at this;omega
 have eX:X*K=R*K+P*((t*K+u) * 18446744073709551616+r*K):=by rw[hX,← hd,hB];grind
 have hrK:r*K+K≤18446744073709551616:=by
  have:(r+1)*K≤Q*K:=Nat.mul_le_mul_right _ hr
  rw[← hB,Nat.add_mul] at this;omega
 have hRK:R*K<P*K:=Nat.mul_lt_mul_of_pos_right hR hK
 have g1:(t*K+u)*(P * 18446744073709551616)≤X*K:=by
  rw[eX]
  have:P*((t*K+u) * 18446744073709551616)≤P*((t*K+u) * 18446744073709551616+r*K):=Nat.mul_le_mul_left _ (by omega)
  have e:(t*K+u)*(P * 18446744073709551616)=P*((t*K+u) * 18446744073709551616):=by grind
  omega
 have g2:X*K<(t*K+u+1)*(P * 18446744073709551616):=by
  rw[eX]
  have h3:P*((t*K+u) * 18446744073709551616+r*K+K)≤P*((t*K+u) * 18446744073709551616 + 18446744073709551616):=Nat.mul_le_mul_left _ (by omega)
  have e:(t*K+u+1)*(P * 18446744073709551616)=P*((t*K+u) * 18446744073709551616 + 18446744073709551616):=by grind
  have e2:P*((t*K+u) * 18446744073709551616+r*K+K)=P*((t*K+u) * 18446744073709551616+r*K)+P*K:=by grind
  omega
 refine⟨⟨by omega,hx,?_,?_⟩,hu⟩
 ·rw[hN,← e63,← Nat.mul_assoc X,← Nat.mul_assoc (t*K+u)];exact Nat.mul_le_mul_right _ g1
 ·rw[hN,← e63,← Nat.mul_assoc X,← Nat.mul_assoc (t*K+u+1)];exact Nat.mul_lt_mul_of_pos_right g2 hz
structure zsw (Z p K:Nat):Prop where
 lo:9223372036854775808≤p
 hi:p < 18446744073709551616
 ge:p*2^K≤Z*85070591730234615865843651857942052864
 lt:Z*85070591730234615865843651857942052864<(p+8)*2^K
theorem qin (A C x y n m z:Nat) (h1:x*n≤A*z) (h2:A*z<(x+1)*n) (g1:y*m≤C*z) (g2:C*z<(y+1)*m):x*y*(n*m)≤A*C*(z*z)∧A*C*(z*z)<(x+1)*(y+1)*(n*m):=by
 have h1:=Nat.mul_le_mul h1 g1
 have h2:=Nat.mul_lt_mul'' h2 g2
 constructor
 ·have e1:x*n*(y*m)=x*y*(n*m):=by grind
  have e2:A*z*(C*z)=A*C*(z*z):=by grind
  rw[← e1,← e2];exact h1
 ·have e1:(x+1)*n*((y+1)*m)=(x+1)*(y+1)*(n*m):=by grind
  have e2:A*z*(C*z)=A*C*(z*z):=by grind
  rw[← e1,← e2];exact h2
theorem qav {A C x y N M:Nat} (h:zsx A x N) (g:zsx C y M):x*y*2^(N+M)≤A*C*85070591730234615865843651857942052864∧A*C*85070591730234615865843651857942052864<(x+1)*(y+1)*2^(N+M):=by
 have e:=qin A C x y _ _ _ h.ge h.lt g.ge g.lt
 rw[← Nat.pow_add] at e
 exact e
theorem zus {A C x y N M:Nat} (h:zsx A x N) (g:zsx C y M):85070591730234615865843651857942052864≤x*y∧(x+1)*(y+1)≤x*y + 18446744073709551616 + 18446744073709551616:=by
 have h1:=h.hi
 have h2:=g.hi
 have h3:=Nat.mul_le_mul h.lo g.lo
 have e:(x+1)*(y+1)=x*y+x+y+1:=by grind
 refine⟨h3,?_⟩
 rw[e]
 generalize x*y=u
 omega
theorem qdy (u v:Nat) (hv:v≤u + 18446744073709551616 + 18446744073709551616):u / 18446744073709551616 * 18446744073709551616≤u∧v≤(u / 18446744073709551616+8) * 18446744073709551616:=⟨by omega,by omega⟩
theorem qil (u v:Nat) (hv:v≤u + 18446744073709551616 + 18446744073709551616):u/9223372036854775808*9223372036854775808≤u∧v≤(u/9223372036854775808+8)*9223372036854775808:=⟨by omega,by omega⟩
theorem qzs (u:Nat):u / 18446744073709551616*2+u % 18446744073709551616/9223372036854775808=u/9223372036854775808:=by omega
theorem qdo (u:Nat) (h1:85070591730234615865843651857942052864≤u) (h2:u / 18446744073709551616<9223372036854775808):9223372036854775808≤u/9223372036854775808∧u/9223372036854775808 < 18446744073709551616:=by
 constructor
 ·rw[Nat.le_div_iff_mul_le (by omega)];exact h1
 ·omega
theorem qdv {A C x y N M:Nat} (h:zsx A x N) (g:zsx C y M) (hh:9223372036854775808≤x*y / 18446744073709551616):zsw (A*C) (x*y / 18446744073709551616) (N+M+64):=by
 obtain⟨a1,a2⟩:=qav h g
 obtain⟨b1,b3⟩:=zus h g
 have b4:x*y / 18446744073709551616 < 18446744073709551616:=by rw[Nat.div_lt_iff_lt_mul (by omega)];exact Nat.mul_lt_mul'' h.hi g.hi
 obtain⟨c1,c2⟩:=qdy _ _ b3
 have e64:2^(N+M+64)=18446744073709551616*2^(N+M):=by rw[Nat.pow_add,Nat.mul_comm]
 refine⟨hh,b4,?_,?_⟩
 ·rw[e64,← Nat.mul_assoc];exact Nat.le_trans (Nat.mul_le_mul_right _ c1) a1
 ·rw[e64,← Nat.mul_assoc];exact Nat.lt_of_lt_of_le a2 (Nat.mul_le_mul_right _ c2)
theorem qip {A C x y N M:Nat} (h:zsx A x N) (g:zsx C y M) (hh:x*y / 18446744073709551616<9223372036854775808):zsw (A*C) (x*y / 18446744073709551616*2+x*y % 18446744073709551616/9223372036854775808) (N+M+63):=by
 obtain⟨a1,a2⟩:=qav h g
 obtain⟨b1,b3⟩:=zus h g
 obtain⟨c1,c2⟩:=qil _ _ b3
 obtain⟨d1,d2⟩:=qdo _ b1 hh
 have e64:2^(N+M+63)=9223372036854775808*2^(N+M):=by rw[Nat.pow_add,Nat.mul_comm]
 rw[qzs]
 refine⟨d1,d2,?_,?_⟩
 ·rw[e64,← Nat.mul_assoc];exact Nat.le_trans (Nat.mul_le_mul_right _ c1) a1
 ·rw[e64,← Nat.mul_assoc];exact Nat.lt_of_lt_of_le a2 (Nat.mul_le_mul_right _ c2)
theorem zut {Z Z' p q K M:Nat} (h:zsw Z p K) (g:zsw Z' q M) (hk:M+1<K):Z' < Z:=by
 refine Nat.lt_of_mul_lt_mul_right (a:=85070591730234615865843651857942052864) (Nat.lt_of_lt_of_le g.lt (Nat.le_trans ?_ h.ge))
 have h1:2^(M+2)≤2^K:=Nat.pow_le_pow_right (by omega) (by omega)
 rw[Nat.pow_add] at h1
 have h2:p*(2^M*2^2)≤p*2^K:=Nat.mul_le_mul_left _ h1
 have h3:=h.lo
 have h4:=g.hi
 refine Nat.le_trans ?_ h2
 rw[Nat.mul_comm (2^M),← Nat.mul_assoc]
 exact Nat.mul_le_mul_right _ (by omega)
theorem zrv {Z Z' p q K:Nat} (h:zsw Z p K) (g:zsw Z' q K) (hk:q+8≤p):Z' < Z:=by
 refine Nat.lt_of_mul_lt_mul_right (a:=85070591730234615865843651857942052864) (Nat.lt_of_lt_of_le g.lt (Nat.le_trans ?_ h.ge))
 exact Nat.mul_le_mul_right _ hk
def ou (X:Nat):Nat:=qg X*2^lz (qg X)+(if (wd 18446744073709551616 X).length≤1 then 0 else (wd 18446744073709551616 X)[(wd 18446744073709551616 X).length-2]?.getD 0/2^(64-lz (qg X)))
def zfs (X:Nat):Nat:=64*((wd 18446744073709551616 X).length-1)+63-lz (qg X)
theorem zpq (X:Nat) (h:0<X):zsx X (ou X) (zfs X):=by
 obtain⟨t1,t2,-,-⟩:=zjg X h
 obtain⟨l1,l2,l3,-⟩:=zdk (qg X) t1 t2
 have hl:0<(wd 18446744073709551616 X).length:=by rw[Nat.pos_iff_ne_zero];intro e;rw[zt (by omega)] at e;omega
 unfold ou zfs
 by_cases h1:(wd 18446744073709551616 X).length≤1
 ·have hX:X < 18446744073709551616:=by
   have:=am (B:=18446744073709551616) (by omega) X 1 h1
   rw[Nat.pow_one] at this;exact this
  have e:qg X=X:=by unfold qg;rw[zgt X h hX];rfl
  rw[if_pos h1,Nat.add_zero,show (wd 18446744073709551616 X).length-1=0 from by omega,Nat.mul_zero,Nat.zero_add]
  rw[e] at l1 l2 l3 ⊢
  exact qnr X _ l1 l3 l2
 ·rw[if_neg h1]
  obtain⟨m,hm⟩:∃ m,(wd 18446744073709551616 X).length=m+2:=⟨(wd 18446744073709551616 X).length-2,by omega⟩
  have e2:=zcj (wd 18446744073709551616 X) m (by omega) (zx (by omega) X)
  have e3:=cm (zx (B:=18446744073709551616) (by omega) X) (by omega:0 < 18446744073709551616) m
  have e4:=zda 18446744073709551616 (wd 18446744073709551616 X) m (by omega)
  have e5:=ig 18446744073709551616 (wd 18446744073709551616 X) (m+1) (by omega)
  rw[List.drop_eq_nil_of_le (by omega:(wd 18446744073709551616 X).length≤m+1+1)] at e5
  rw[jg (by omega),e5] at e4
  rw[show (wd 18446744073709551616 X)[m+1]?.getD 0=qg X from by unfold qg;rw[hm];rfl] at e4
  rw[show (wd 18446744073709551616 X).length-2=m from by omega,show (wd 18446744073709551616 X).length-1=m+1 from by omega]
  simp only[vl,Nat.mul_zero,Nat.add_zero] at e4
  exact (qio X _ _ m _ (qg X) (lz (qg X)) rfl e4 e2 e3 l1 l3 l2).1
theorem zoq (v:Value) (X:Nat) (hX:0<X) (w:World) (hv:Sl .u64 w v (wd 18446744073709551616 X)) (hl:(wd 18446744073709551616 X).length<134217728) (x:Nat) (N:Int) (hx:Hid (x=ou X)) (hN:Hid (N=(zfs X:Int)-63)) :
  Calls prog 192 #[v] w fun e w'=>e=.returned (.tuple #[.int .u64 (x:Int),.int .i64 N])∧w'=w:=by
 obtain⟨t1,t2,-,-⟩:=zjg X hX
 obtain⟨hs,l2,l3,-⟩:=zdk (qg X) t1 t2
 have LZ:=af (fun W=>ziw (qg X) t1 t2 W)
 rcases hv.open with ⟨e,-⟩|⟨hp,b,o,c,rfl,hc,-,hcell⟩
 ·rw[oh (by omega)] at e;omega
 have hct:=hcell ((wd 18446744073709551616 X).length-1) (by omega)
 rw[show (wd 18446744073709551616 X)[(wd 18446744073709551616 X).length-1]?.getD 0=qg X from rfl] at hct
 have E0:IntKind.u64.wrap (((qg X:Nat):Int)*2^lz (qg X))=((qg X*2^lz (qg X):Nat):Int):=by
  have e:((qg X:Nat):Int)*2^lz (qg X)=((qg X*2^lz (qg X):Nat):Int):=by simp
  rw[e,IntKind.wrap_u64];omega
 unfold ou at hx
 unfold zfs at hN
 by_cases h1:(wd 18446744073709551616 X).length≤1
 ·have hl1:(wd 18446744073709551616 X).length=1:=by omega
  rw[if_pos h1,Nat.add_zero] at hx
  rw[hl1] at hct hN ⊢
  rw[Nat.sub_self,Nat.add_zero] at hct
  have hNN:Hid (N=-((lz (qg X):Nat):Int)):=by
   show _=_;rw[ae hN];omega
  clear hcell hN hv
  generalize qg X*2^lz (qg X)=y at *
  generalize lz (qg X)=s at *
  generalize qg X=t at *
  have HX:x=y:=ae hx
  subst HX
  have HN:N=-(s:Int):=ae hNN
  subst HN
  go_enter func192,ntmps192
  go_wp2_with fail
  refine (ae LZ _).mono ?_
  rintro e w1 ⟨rfl,hw⟩
  obtain rfl:=hw.symm
  clear hw
  go_wp2
  go_ret2
  exact⟨rfl,rfl⟩
 ·rw[if_neg h1] at hx
  have hc2:=hcell ((wd 18446744073709551616 X).length-2) (by omega)
  have e3:=cm (zx (B:=18446744073709551616) (by omega) X) (by omega:0 < 18446744073709551616) ((wd 18446744073709551616 X).length-2)
  generalize (wd 18446744073709551616 X)[(wd 18446744073709551616 X).length-2]?.getD 0=y at *
  have hu:y/2^(64-lz (qg X))<2^lz (qg X):=by
   have hB:18446744073709551616=2^(64-lz (qg X))*2^lz (qg X):=by rw[← Nat.pow_add,show 64-lz (qg X)+lz (qg X)=64 from by omega]
   rw[Nat.div_lt_iff_lt_mul (Nat.pow_pos (by omega)),Nat.mul_comm,← hB];exact e3
  have hub:y/2^(64-lz (qg X)) < 18446744073709551616:=Nat.lt_of_le_of_lt (Nat.div_le_self _ _) e3
  have hor:qg X*2^lz (qg X) ||| y/2^(64-lz (qg X))=qg X*2^lz (qg X)+y/2^(64-lz (qg X)):=by
   rw[Nat.mul_comm,Nat.two_pow_add_eq_or_of_lt hu]
  have E1:bits .or .u64 ((qg X*2^lz (qg X):Nat):Int) ((y/2^(64-lz (qg X)):Nat):Int)=((qg X*2^lz (qg X)+y/2^(64-lz (qg X)):Nat):Int):=by
   rw[bits_or_u64_nat _ _ l2 hub,hor]
  have E2:((y:Nat):Int)/2^(64-lz (qg X))=((y/2^(64-lz (qg X)):Nat):Int):=by simp
  have E3:(64-((lz (qg X):Nat):Int)).toNat=64-lz (qg X):=by omega
  clear hcell hv hor hu
  generalize qg X*2^lz (qg X)+y/2^(64-lz (qg X))=z at *
  generalize y/2^(64-lz (qg X))=q at *
  generalize qg X*2^lz (qg X)=p at *
  generalize lz (qg X)=s at *
  generalize qg X=t at *
  generalize (wd 18446744073709551616 X).length=n at *
  have HX:x=z:=ae hx
  subst HX
  have HN:N=((n:Int)-1)*64-s:=by rw[ae hN];omega
  subst HN
  obtain⟨m,rfl⟩:∃ m,n=m+2:=⟨n-2,by omega⟩
  rw[show m+2-1=m+1 from rfl] at hct
  rw[show m+2-2=m from rfl] at hc2
  have hm0:(0:Int)≤(m:Int):=by omega
  clear hx hN
  go_enter func192,ntmps192
  go_wp2_with fail
  refine (ae LZ _).mono ?_
  rintro e w1 ⟨rfl,hw⟩
  obtain rfl:=hw.symm
  clear hw
  go_wp2
  go_ret2
  refine⟨?_,rfl⟩
  go_num
def zfp (A C:Nat):Nat:=if ou A*ou C / 18446744073709551616<9223372036854775808 then ou A*ou C / 18446744073709551616*2+ou A*ou C % 18446744073709551616/9223372036854775808 else ou A*ou C / 18446744073709551616
def zds (A C:Nat):Nat:=if ou A*ou C / 18446744073709551616<9223372036854775808 then zfs A+zfs C+63 else zfs A+zfs C+64
theorem qfh (A C:Nat) (hA:0<A) (hC:0<C):zsw (A*C) (zfp A C) (zds A C):=by
 have h:=zpq A hA
 have g:=zpq C hC
 unfold zfp zds
 split
 ·exact qip h g (by assumption)
 ·exact qdv h g (by omega)
theorem zmb (X:Nat) (n:Nat) (h:(wd 18446744073709551616 X).length<n):zfs X≤64*n:=by unfold zfs;omega
theorem zze (A C n:Nat) (hA:(wd 18446744073709551616 A).length<n) (hC:(wd 18446744073709551616 C).length<n):zds A C≤128*n+64:=by
 have h1:=zmb A n hA
 have h2:=zmb C n hC
 unfold zds
 split <;> omega
theorem zfa (va vc:Value) (A C:Nat) (hA:0<A) (hC:0<C) (w:World) (ha:Sl .u64 w va (wd 18446744073709551616 A)) (hc:Sl .u64 w vc (wd 18446744073709551616 C)) (hla:(wd 18446744073709551616 A).length<134217728) (hlc:(wd 18446744073709551616 C).length<134217728) (p:Nat) (K:Int) (hp:Hid (p=zfp A C)) (hK:Hid (K=(zds A C:Int)-126)) :
  Calls prog 166 #[va,vc] w fun e w'=>e=.returned (.tuple #[.int .u64 (p:Int),.int .i64 K])∧w'=w:=by
 have LA:=af (zoq va A hA w ha hla (ou A) ((zfs A:Int)-63) rfl rfl)
 have LC:=af (zoq vc C hC w hc hlc (ou C) ((zfs C:Int)-63) rfl rfl)
 have ba:=(zpq A hA).hi
 have bc:=(zpq C hC).hi
 have na:=zmb A _ hla
 have nc:=zmb C _ hlc
 have MU:=af (fun W=>Tryz.bits_Mul64 (ou A) (ou C) ba bc W)
 have hzB:ou A*ou C / 18446744073709551616 < 18446744073709551616:=by rw[Nat.div_lt_iff_lt_mul (by omega)];exact Nat.mul_lt_mul'' ba bc
 have hzL:ou A*ou C % 18446744073709551616 < 18446744073709551616:=Nat.mod_lt _ (by omega)
 unfold zfp at hp
 unfold zds at hK
 obtain⟨aa,ca,rfl,-,-⟩:=ha
 obtain⟨ac,cc,rfl,-,-⟩:=hc
 generalize (wd 18446744073709551616 A).length=la at *
 generalize (wd 18446744073709551616 C).length=lc at *
 generalize ou A*ou C / 18446744073709551616=hi at *
 generalize ou A*ou C % 18446744073709551616=lo at *
 generalize ou A=x at *
 generalize ou C=y at *
 generalize zfs A=n at *
 generalize zfs C=m at *
 by_cases hh:hi<9223372036854775808
 ·rw[if_pos hh] at hp hK
  have d1:((hi:Int)/9223372036854775808==0)=true:=beq_iff_eq.2 (by omega)
  have hor:bits .or .u64 ((hi*2:Nat):Int) ((lo/9223372036854775808:Nat):Int)=((hi*2+lo/9223372036854775808:Nat):Int):=by
   rw[bits_or_u64_nat _ _ (by omega) (by omega)]
   have:=Nat.two_pow_add_eq_or_of_lt (i:=1) (b:=lo/9223372036854775808) (by omega) hi
   rw[Nat.pow_one,Nat.mul_comm] at this
   rw[this]
  have e1:IntKind.u64.wrap ((hi:Int)*2)=((hi*2:Nat):Int):=by rw[IntKind.wrap_u64];omega
  have e2:(lo:Int)/9223372036854775808=((lo/9223372036854775808:Nat):Int):=by simp
  generalize hi*2+lo/9223372036854775808=z at *
  generalize lo/9223372036854775808=z2 at *
  generalize hi*2=z1 at *
  have HP:p=z:=ae hp
  subst HP
  have HK:K=(n:Int)+m-63:=by rw[ae hK];omega
  subst HK
  clear hp hK
  go_enter func166,ntmps166
  go_wp2_with fail
  refine (ae LA).mono ?_
  rintro e w1 ⟨rfl,hw⟩
  obtain rfl:=hw.symm
  clear hw
  go_wp2_with fail
  refine (ae LC).mono ?_
  rintro e w1 ⟨rfl,hw⟩
  obtain rfl:=hw.symm
  clear hw
  go_wp2_with fail
  refine (ae MU _).mono ?_
  rintro e w1 ⟨rfl,hw⟩
  obtain rfl:=hw.symm
  clear hw
  go_wp2
  go_ret2
  refine⟨?_,rfl⟩
  go_num
 ·rw[if_neg hh] at hp hK
  have d1:((hi:Int)/9223372036854775808==0)=false:=beq_eq_false_iff_ne.2 (by omega)
  have HP:p=hi:=ae hp
  subst HP
  have HK:K=(n:Int)+m-62:=by rw[ae hK];omega
  subst HK
  clear hp hK
  go_enter func166,ntmps166
  go_wp2_with fail
  refine (ae LA).mono ?_
  rintro e w1 ⟨rfl,hw⟩
  obtain rfl:=hw.symm
  clear hw
  go_wp2_with fail
  refine (ae LC).mono ?_
  rintro e w1 ⟨rfl,hw⟩
  obtain rfl:=hw.symm
  clear hw
  go_wp2_with fail
  refine (ae MU _).mono ?_
  rintro e w1 ⟨rfl,hw⟩
  obtain rfl:=hw.symm
  clear hw
  go_wp2
  go_ret2
  refine⟨?_,rfl⟩
  go_num
theorem zgr {x y:Nat} (h:y<x):zz x y=1:=by unfold zz;rw[if_neg (by omega),if_neg (by omega)]
theorem zpe (va vb vc vd:Value) (A B C D:Nat) (w:World) (ha:Sl .u64 w va (wd 18446744073709551616 A)) (hb:Sl .u64 w vb (wd 18446744073709551616 B)) (hc:Sl .u64 w vc (wd 18446744073709551616 C)) (hd:Sl .u64 w vd (wd 18446744073709551616 D)) (hla:(wd 18446744073709551616 A).length<33554432) (hlb:(wd 18446744073709551616 B).length<33554432) (hlc:(wd 18446744073709551616 C).length<33554432) (hld:(wd 18446744073709551616 D).length<33554432) (r:Int) (hr:Hid (r=zz (A*B) (C*D))) :
  Calls prog 134 #[va,vb,vc,vd] w fun e w'=>e=.returned (.int .i64 r)∧But [] w w':=by
 have wm:∀ X Y:Nat,(wd 18446744073709551616 X).length<33554432→(wd 18446744073709551616 Y).length<33554432→(wd 18446744073709551616 (X*Y)).length<67108864:=fun X Y h1 h2=>by
  have:=jq X Y;omega
 have M1:Hid (∀ W,But [] w W→Calls prog 124 #[va,vb] W fun e w'=>∃ v',e=.returned v'∧Sl .u64 w' v' (wd 18446744073709551616 (A*B))∧But [] W w'∧qcb W.heap.size v' va vb A B):=fun W hB=>ve va vb A B W (ha.ah hB) (hb.ah hB) (by omega)
 have M2:Hid (∀ W,But [] w W→Calls prog 124 #[vc,vd] W fun e w'=>∃ v',e=.returned v'∧Sl .u64 w' v' (wd 18446744073709551616 (C*D))∧But [] W w'∧qcb W.heap.size v' vc vd C D):=fun W hB=>ve vc vd C D W (hc.ah hB) (hd.ah hB) (by omega)
 have CM:Hid (∀ W v1 v2,Sl .u64 W v1 (wd 18446744073709551616 (A*B))→Sl .u64 W v2 (wd 18446744073709551616 (C*D))→Calls prog 144 #[v1,v2] W fun e w'=>e=.returned (.int .i64 r)∧∃ q,w'=W.drewN q):=fun W v1 v2 h1 h2=>by
  rw[ae hr]
  have l1:=wm A B hla hlb
  have l2:=wm C D hlc hld
  exact oq v1 v2 _ _ W h1 h2 (by omega) (by omega)
 have zl:∀ X:Nat,((wd 18446744073709551616 X).length=0↔X=0):=fun X=>zt (by omega) X
 have LP1:Hid (∀ p K,0<A→0<B→Hid (p=zfp A B)→Hid (K=(zds A B:Int)-126)→Calls prog 166 #[va,vb] w fun e w'=>e=.returned (.tuple #[.int .u64 (p:Int),.int .i64 K])∧w'=w):=fun p K h1 h2 h3 h4=>zfa va vb A B h1 h2 w ha hb (by omega) (by omega) p K h3 h4
 have LP2:Hid (∀ p K,0<C→0<D→Hid (p=zfp C D)→Hid (K=(zds C D:Int)-126)→Calls prog 166 #[vc,vd] w fun e w'=>e=.returned (.tuple #[.int .u64 (p:Int),.int .i64 K])∧w'=w):=fun p K h1 h2 h3 h4=>zfa vc vd C D h1 h2 w hc hd (by omega) (by omega) p K h3 h4
 have ZA:=zl A
 have ZB:=zl B
 have ZC:=zl C
 have ZD:=zl D
 have kl1:=zze A B _ hla hlb
 have kl2:=zze C D _ hlc hld
 obtain⟨aa,ca,rfl,-,-⟩:=ha
 obtain⟨ab,cb,rfl,-,-⟩:=hb
 obtain⟨ac,cc,rfl,-,-⟩:=hc
 obtain⟨ad,cd,rfl,-,-⟩:=hd
 clear zl wm
 generalize (wd 18446744073709551616 A).length=la at *
 generalize (wd 18446744073709551616 B).length=lb at *
 generalize (wd 18446744073709551616 C).length=lc at *
 generalize (wd 18446744073709551616 D).length=ld at *
 by_cases h0:la=0∨lb=0∨lc=0∨ld=0
 ·clear LP1 LP2 kl1 kl2 ZA ZB ZC ZD hr
  by_cases z1:la=0
  ·have q1:((la:Int)==0)=true:=beq_iff_eq.2 (by omega)
   clear h0 z1
   go_enter func134,ntmps134
   go_wp2_with fail
   refine (ae M1 _ (But.refl _ _)).mono ?_
   rintro e w1 ⟨v1,rfl,hv1,hb1,-⟩
   have H1:=af hv1
   have B1:=af hb1
   clear hv1 hb1
   go_wp2_with fail
   refine (ae M2 _ (ae B1)).mono ?_
   rintro e w2 ⟨v2,rfl,hv2,hb2,-⟩
   have H2:=af hv2
   have H1':=af ((ae H1).ah hb2)
   have B2:Hid (But [] w w2):=(ae B1).trans' hb2
   clear hv2 hb2 H1
   go_wp2_with fail
   refine (ae CM _ _ _ (ae H1') (ae H2)).mono ?_
   rintro e w3 ⟨rfl,q,rfl⟩
   go_wp2
   go_ret
   exact⟨rfl,(ae B2).drewN q⟩
  ·have q1:((la:Int)==0)=false:=beq_eq_false_iff_ne.2 (by omega)
   by_cases z2:lb=0
   ·have q2:((lb:Int)==0)=true:=beq_iff_eq.2 (by omega)
    clear h0 z2
    go_enter func134,ntmps134
    go_wp2_with fail
    refine (ae M1 _ (But.refl _ _)).mono ?_
    rintro e w1 ⟨v1,rfl,hv1,hb1,-⟩
    have H1:=af hv1
    have B1:=af hb1
    clear hv1 hb1
    go_wp2_with fail
    refine (ae M2 _ (ae B1)).mono ?_
    rintro e w2 ⟨v2,rfl,hv2,hb2,-⟩
    have H2:=af hv2
    have H1':=af ((ae H1).ah hb2)
    have B2:Hid (But [] w w2):=(ae B1).trans' hb2
    clear hv2 hb2 H1
    go_wp2_with fail
    refine (ae CM _ _ _ (ae H1') (ae H2)).mono ?_
    rintro e w3 ⟨rfl,q,rfl⟩
    go_wp2
    go_ret
    exact⟨rfl,(ae B2).drewN q⟩
   ·have q2:((lb:Int)==0)=false:=beq_eq_false_iff_ne.2 (by omega)
    by_cases z3:lc=0
    ·have q3:((lc:Int)==0)=true:=beq_iff_eq.2 (by omega)
     clear h0 z3
     go_enter func134,ntmps134
     go_wp2_with fail
     refine (ae M1 _ (But.refl _ _)).mono ?_
     rintro e w1 ⟨v1,rfl,hv1,hb1,-⟩
     have H1:=af hv1
     have B1:=af hb1
     clear hv1 hb1
     go_wp2_with fail
     refine (ae M2 _ (ae B1)).mono ?_
     rintro e w2 ⟨v2,rfl,hv2,hb2,-⟩
     have H2:=af hv2
     have H1':=af ((ae H1).ah hb2)
     have B2:Hid (But [] w w2):=(ae B1).trans' hb2
     clear hv2 hb2 H1
     go_wp2_with fail
     refine (ae CM _ _ _ (ae H1') (ae H2)).mono ?_
     rintro e w3 ⟨rfl,q,rfl⟩
     go_wp2
     go_ret
     exact⟨rfl,(ae B2).drewN q⟩
    ·have q3:((lc:Int)==0)=false:=beq_eq_false_iff_ne.2 (by omega)
     have q4:((ld:Int)==0)=true:=beq_iff_eq.2 (by omega)
     clear h0
     go_enter func134,ntmps134
     go_wp2_with fail
     refine (ae M1 _ (But.refl _ _)).mono ?_
     rintro e w1 ⟨v1,rfl,hv1,hb1,-⟩
     have H1:=af hv1
     have B1:=af hb1
     clear hv1 hb1
     go_wp2_with fail
     refine (ae M2 _ (ae B1)).mono ?_
     rintro e w2 ⟨v2,rfl,hv2,hb2,-⟩
     have H2:=af hv2
     have H1':=af ((ae H1).ah hb2)
     have B2:Hid (But [] w w2):=(ae B1).trans' hb2
     clear hv2 hb2 H1
     go_wp2_with fail
     refine (ae CM _ _ _ (ae H1') (ae H2)).mono ?_
     rintro e w3 ⟨rfl,q,rfl⟩
     go_wp2
     go_ret
     exact⟨rfl,(ae B2).drewN q⟩
 ·have hA:0<A:=by omega
  have hB:0<B:=by omega
  have hC:0<C:=by omega
  have hD:0<D:=by omega
  have P1:=qfh A B hA hB
  have P2:=qfh C D hC hD
  have x1:=P1.hi
  have x2:=P2.hi
  have FAR1:=af (fun h=>zut P1 P2 h)
  have FAR2:=af (fun h=>zut P2 P1 h)
  have NEAR1:Hid (zds A B=zds C D→zfp C D+8≤zfp A B→C*D<A*B):=fun e h=>zrv P1 (e ▸ P2) h
  have NEAR2:Hid (zds A B=zds C D→zfp A B+8≤zfp C D→A*B<C*D):=fun e h=>zrv P2 (e ▸ P1) h
  have L1:=af (ae LP1 (zfp A B) ((zds A B:Int)-126) hA hB rfl rfl)
  have L2:=af (ae LP2 (zfp C D) ((zds C D:Int)-126) hC hD rfl rfl)
  have nz1:((la:Int)==0)=false:=beq_eq_false_iff_ne.2 (by omega)
  have nz2:((lb:Int)==0)=false:=beq_eq_false_iff_ne.2 (by omega)
  have nz3:((lc:Int)==0)=false:=beq_eq_false_iff_ne.2 (by omega)
  have nz4:((ld:Int)==0)=false:=beq_eq_false_iff_ne.2 (by omega)
  clear LP1 LP2 P1 P2 ZA ZB ZC ZD
  generalize zfp A B=x at *
  generalize zfp C D=y at *
  generalize zds A B=n at *
  generalize zds C D=m at *
  obtain⟨N,hN⟩:∃ N,N=(n:Int)-126:=⟨_,rfl⟩
  obtain⟨M,hM⟩:∃ M,M=(m:Int)-126:=⟨_,rfl⟩
  rw[← hN] at L1
  rw[← hM] at L2
  have F1:Hid (M+1<N→C*D<A*B):=fun h=>ae FAR1 (by omega)
  have F2:Hid (N+1<M→A*B<C*D):=fun h=>ae FAR2 (by omega)
  have G1:Hid (N=M→y+8≤x→C*D<A*B):=fun h h2=>ae NEAR1 (by omega) h2
  have G2:Hid (N=M→x+8≤y→A*B<C*D):=fun h h2=>ae NEAR2 (by omega) h2
  have n1:-126≤N:=by omega
  have n2:N≤4294967424:=by omega
  have m1:-126≤M:=by omega
  have m2:M≤4294967424:=by omega
  clear FAR1 FAR2 NEAR1 NEAR2 hN hM kl1 kl2 h0
  by_cases c1:M+1<N
  ·have ER:Hid (r=1):=by show _=_;rw[ae hr,zgr (ae F1 c1)]
   clear hr F1 F2 G1 G2
   have d1:decide (M+1<N)=true:=decide_eq_true c1
   go_enter func134,ntmps134
   go_wp2_with fail
   refine (ae L1).mono ?_
   rintro e w1 ⟨rfl,hw⟩
   obtain rfl:=hw.symm
   clear hw
   go_wp2_with fail
   refine (ae L2).mono ?_
   rintro e w1 ⟨rfl,hw⟩
   obtain rfl:=hw.symm
   clear hw
   go_wp2
   go_ret
   exact⟨by rw[ae ER];rfl,But.refl _ _⟩
  ·have d1:decide (M+1<N)=false:=decide_eq_false c1
   by_cases c2:N=M
   ·have d2:(N==M)=true:=beq_iff_eq.2 c2
    have c3:¬ (N+1<M):=by omega
    have d3:decide (N+1<M)=false:=decide_eq_false c3
    rcases Nat.lt_trichotomy x y with hxy | hxy | hxy
    ·have d4:decide ((y:Int)<(x:Int))=false:=decide_eq_false (by omega)
     have d5:decide ((x:Int)<(y:Int))=true:=decide_eq_true (by omega)
     have d7:IntKind.u64.wrap ((y:Int)-(x:Int))=(y:Int)-(x:Int):=by rw[IntKind.wrap_u64];omega
     by_cases c4:x+8≤y
     ·have ER:Hid (r=-1):=by show _=_;rw[ae hr,zcb (ae G2 c2 c4)]
      clear hr F1 F2 G1 G2
      have d6:decide (8≤(y:Int)-(x:Int))=true:=decide_eq_true (by omega)
      go_enter func134,ntmps134
      go_wp2_with fail
      refine (ae L1).mono ?_
      rintro e w1 ⟨rfl,hw⟩
      obtain rfl:=hw.symm
      clear hw
      go_wp2_with fail
      refine (ae L2).mono ?_
      rintro e w1 ⟨rfl,hw⟩
      obtain rfl:=hw.symm
      clear hw
      go_wp2
      go_ret
      exact⟨by rw[ae ER];rfl,But.refl _ _⟩
     ·have d6:decide (8≤(y:Int)-(x:Int))=false:=decide_eq_false (by omega)
      clear hr F1 F2 G1 G2
      go_enter func134,ntmps134
      go_wp2_with fail
      refine (ae L1).mono ?_
      rintro e w1 ⟨rfl,hw⟩
      obtain rfl:=hw.symm
      clear hw
      go_wp2_with fail
      refine (ae L2).mono ?_
      rintro e w1 ⟨rfl,hw⟩
      obtain rfl:=hw.symm
      clear hw
      go_wp2_with fail
      refine (ae M1 _ (But.refl _ _)).mono ?_
      rintro e w1 ⟨v1,rfl,hv1,hb1,-⟩
      have H1:=af hv1
      have B1:=af hb1
      clear hv1 hb1
      go_wp2_with fail
      refine (ae M2 _ (ae B1)).mono ?_
      rintro e w2 ⟨v2,rfl,hv2,hb2,-⟩
      have H2:=af hv2
      have H1':=af ((ae H1).ah hb2)
      have B2:Hid (But [] w w2):=(ae B1).trans' hb2
      clear hv2 hb2 H1
      go_wp2_with fail
      refine (ae CM _ _ _ (ae H1') (ae H2)).mono ?_
      rintro e w3 ⟨rfl,q,rfl⟩
      go_wp2
      go_ret
      exact⟨rfl,(ae B2).drewN q⟩
    ·have d4:decide ((y:Int)<(x:Int))=false:=decide_eq_false (by omega)
     have d5:decide ((x:Int)<(y:Int))=false:=decide_eq_false (by omega)
     clear hr F1 F2 G1 G2
     go_enter func134,ntmps134
     go_wp2_with fail
     refine (ae L1).mono ?_
     rintro e w1 ⟨rfl,hw⟩
     obtain rfl:=hw.symm
     clear hw
     go_wp2_with fail
     refine (ae L2).mono ?_
     rintro e w1 ⟨rfl,hw⟩
     obtain rfl:=hw.symm
     clear hw
     go_wp2_with fail
     refine (ae M1 _ (But.refl _ _)).mono ?_
     rintro e w1 ⟨v1,rfl,hv1,hb1,-⟩
     have H1:=af hv1
     have B1:=af hb1
     clear hv1 hb1
     go_wp2_with fail
     refine (ae M2 _ (ae B1)).mono ?_
     rintro e w2 ⟨v2,rfl,hv2,hb2,-⟩
     have H2:=af hv2
     have H1':=af ((ae H1).ah hb2)
     have B2:Hid (But [] w w2):=(ae B1).trans' hb2
     clear hv2 hb2 H1
     go_wp2_with fail
     refine (ae CM _ _ _ (ae H1') (ae H2)).mono ?_
     rintro e w3 ⟨rfl,q,rfl⟩
     go_wp2
     go_ret
     exact⟨rfl,(ae B2).drewN q⟩
    ·have d4:decide ((y:Int)<(x:Int))=true:=decide_eq_true (by omega)
     have d5:decide ((x:Int)<(y:Int))=false:=decide_eq_false (by omega)
     have d7:IntKind.u64.wrap ((x:Int)-(y:Int))=(x:Int)-(y:Int):=by rw[IntKind.wrap_u64];omega
     by_cases c4:y+8≤x
     ·have ER:Hid (r=1):=by show _=_;rw[ae hr,zgr (ae G1 c2 c4)]
      clear hr F1 F2 G1 G2
      have d6:decide (8≤(x:Int)-(y:Int))=true:=decide_eq_true (by omega)
      go_enter func134,ntmps134
      go_wp2_with fail
      refine (ae L1).mono ?_
      rintro e w1 ⟨rfl,hw⟩
      obtain rfl:=hw.symm
      clear hw
      go_wp2_with fail
      refine (ae L2).mono ?_
      rintro e w1 ⟨rfl,hw⟩
      obtain rfl:=hw.symm
      clear hw
      go_wp2
      go_ret
      exact⟨by rw[ae ER];rfl,But.refl _ _⟩
     ·have d6:decide (8≤(x:Int)-(y:Int))=false:=decide_eq_false (by omega)
      clear hr F1 F2 G1 G2
      go_enter func134,ntmps134
      go_wp2_with fail
      refine (ae L1).mono ?_
      rintro e w1 ⟨rfl,hw⟩
      obtain rfl:=hw.symm
      clear hw
      go_wp2_with fail
      refine (ae L2).mono ?_
      rintro e w1 ⟨rfl,hw⟩
      obtain rfl:=hw.symm
      clear hw
      go_wp2_with fail
      refine (ae M1 _ (But.refl _ _)).mono ?_
      rintro e w1 ⟨v1,rfl,hv1,hb1,-⟩
      have H1:=af hv1
      have B1:=af hb1
      clear hv1 hb1
      go_wp2_with fail
      refine (ae M2 _ (ae B1)).mono ?_
      rintro e w2 ⟨v2,rfl,hv2,hb2,-⟩
      have H2:=af hv2
      have H1':=af ((ae H1).ah hb2)
      have B2:Hid (But [] w w2):=(ae B1).trans' hb2
      clear hv2 hb2 H1
      go_wp2_with fail
      refine (ae CM _ _ _ (ae H1') (ae H2)).mono ?_
      rintro e w3 ⟨rfl,q,rfl⟩
      go_wp2
      go_ret
      exact⟨rfl,(ae B2).drewN q⟩
   ·have d2:(N==M)=false:=beq_eq_false_iff_ne.2 c2
    by_cases c3:N+1<M
    ·have ER:Hid (r=-1):=by show _=_;rw[ae hr,zcb (ae F2 c3)]
     clear hr F1 F2 G1 G2
     have d3:decide (N+1<M)=true:=decide_eq_true c3
     go_enter func134,ntmps134
     go_wp2_with fail
     refine (ae L1).mono ?_
     rintro e w1 ⟨rfl,hw⟩
     obtain rfl:=hw.symm
     clear hw
     go_wp2_with fail
     refine (ae L2).mono ?_
     rintro e w1 ⟨rfl,hw⟩
     obtain rfl:=hw.symm
     clear hw
     go_wp2
     go_ret
     exact⟨by rw[ae ER];rfl,But.refl _ _⟩
    ·have d3:decide (N+1<M)=false:=decide_eq_false c3
     clear hr F1 F2 G1 G2
     go_enter func134,ntmps134
     go_wp2_with fail
     refine (ae L1).mono ?_
     rintro e w1 ⟨rfl,hw⟩
     obtain rfl:=hw.symm
     clear hw
     go_wp2_with fail
     refine (ae L2).mono ?_
     rintro e w1 ⟨rfl,hw⟩
     obtain rfl:=hw.symm
     clear hw
     go_wp2_with fail
     refine (ae M1 _ (But.refl _ _)).mono ?_
     rintro e w1 ⟨v1,rfl,hv1,hb1,-⟩
     have H1:=af hv1
     have B1:=af hb1
     clear hv1 hb1
     go_wp2_with fail
     refine (ae M2 _ (ae B1)).mono ?_
     rintro e w2 ⟨v2,rfl,hv2,hb2,-⟩
     have H2:=af hv2
     have H1':=af ((ae H1).ah hb2)
     have B2:Hid (But [] w w2):=(ae B1).trans' hb2
     clear hv2 hb2 H1
     go_wp2_with fail
     refine (ae CM _ _ _ (ae H1') (ae H2)).mono ?_
     rintro e w3 ⟨rfl,q,rfl⟩
     go_wp2
     go_ret
     exact⟨rfl,(ae B2).drewN q⟩
theorem qja (b:Nat) (x y:Int) (w:World) (hx:w.cell? ⟨b,0,none⟩=some (.int .i64 x)) (hy:w.cell? ⟨b,1,none⟩=some (.int .i64 y)) (r:Int) (hr:Hid (r=if x≠0 then x else y)) :
  Calls prog 132 #[.slice (some ⟨b,0,none⟩) 2 2] w fun e w'=>e=.returned (.int .i64 r)∧But [] w w':=by
 by_cases h0:x=0
 ·subst h0
  by_cases h1:y=0
  ·subst h1
   have er:Hid (r=0):=by show _=_;rw[ae hr];simp
   clear hr
   go_enter func132,ntmps132
   go_wp2
   refine wp_loop_rounds 3 ?_
   rw[rounds_succ]
   go_wp2
   rw[rounds_succ]
   go_wp2
   rw[rounds_succ]
   go_wp2
   go_ret
   exact⟨by rw[ae er];rfl,But.refl _ _⟩
  ·have er:Hid (r=y):=by show _=_;rw[ae hr];simp
   have n1:(y != 0)=true:=by simp[h1]
   clear hr
   go_enter func132,ntmps132
   go_wp2
   refine wp_loop_rounds 2 ?_
   rw[rounds_succ]
   go_wp2
   rw[rounds_succ]
   go_wp2
   go_ret
   exact⟨by rw[ae er];rfl,But.refl _ _⟩
 ·have er:Hid (r=x):=by show _=_;rw[ae hr];simp[h0]
  have n1:(x != 0)=true:=by simp[h0]
  clear hr
  go_enter func132,ntmps132
  go_wp2
  refine wp_loop_rounds 1 ?_
  rw[rounds_succ]
  go_wp2
  go_ret
  exact⟨by rw[ae er];rfl,But.refl _ _⟩
theorem qrf (h1 l1 h2 l2:Nat) (b1:l1 < 18446744073709551616) (b2:l2 < 18446744073709551616):zz (l1 + 18446744073709551616*h1) (l2 + 18446744073709551616*h2)=if zz h1 h2≠0 then zz h1 h2 else zz l1 l2:=by
 rcases Nat.lt_trichotomy h1 h2 with h | h | h
 ·rw[zcb h,zcb (by omega)];simp
 ·subst h
  have e:zz h1 h1=0:=by simp[zz]
  rw[e,if_neg (by simp)]
  rcases Nat.lt_trichotomy l1 l2 with h | h | h
  ·rw[zcb h,zcb (by omega)]
  ·subst h;simp[zz]
  ·rw[zgr h,zgr (by omega)]
 ·rw[zgr h,zgr (by omega)];simp
theorem zsk (s1 s2:Bool) (a b c d:Nat) (ha:a < 18446744073709551616) (hb:b < 18446744073709551616) (hc:c < 18446744073709551616) (hd:d < 18446744073709551616) (hb0:0<b) (hd0:0<d) (w:World) (r:Int) (hr:Hid (r=zz (a*d) (c*b))) :
  Calls prog 76 #[.agg #[.bool s1,.int .u64 (a:Int),.int .u64 ((b:Int)-1),.pointer none],.agg #[.bool s2,.int .u64 (c:Int),.int .u64 ((d:Int)-1),.pointer none]] w fun e w'=>e=.returned (.int .i64 r)∧But [] w w':=by
 have U1:=af (fun W=>zbb s1 a b hb hb0 W)
 have U2:=af (fun W=>zbb s2 c d hd hd0 W)
 obtain⟨lo1,hi1,hlo1,hhi1,e1⟩:=bt a d 0 ha hd (by omega)
 obtain⟨lo2,hi2,hlo2,hhi2,e2⟩:=bt c b 0 hc hb (by omega)
 rw[Nat.add_zero] at e1 e2
 have M1:=af (fun W=>o6 a d hi1 lo1 ha hd hlo1 e1 W)
 have M2:=af (fun W=>o6 c b hi2 lo2 hc hb hlo2 e2 W)
 have hrr:Hid (r=if zz hi1 hi2≠0 then zz hi1 hi2 else zz lo1 lo2):=by show _=_;rw[ae hr,e1,e2,qrf _ _ _ _ hlo1 hlo2]
 have C1:=af (fun W=>zmi hi1 hi2 W (zz hi1 hi2) rfl)
 have C2:=af (fun W=>zmi lo1 lo2 W (zz lo1 lo2) rfl)
 clear hr e1 e2
 generalize zz hi1 hi2=z1 at *
 generalize zz lo1 lo2=z2 at *
 obtain⟨W,hW⟩:∃ W,W=((w.alloc (.cells #[.bool s1,.int .u64 (a:Int),.int .u64 ((b:Int)-1),.pointer none] 27)).alloc (.cells #[.bool s2,.int .u64 (c:Int),.int .u64 ((d:Int)-1),.pointer none] 27)):=⟨_,rfl⟩
 obtain⟨tA,tB,-,hB⟩:=zkp w W _ _ _ hW
 have x0:=tA 0
 have x1:=tA 1
 have x2:=tA 2
 have x3:=tA 3
 have y0:=tB 0
 have y1:=tB 1
 have y2:=tB 2
 have y3:=tB 3
 simp only[List.getElem?_toArray,List.getElem?_cons_zero,List.getElem?_cons_succ] at x0 x1 x2 x3 y0 y1 y2 y3
 clear tA tB
 have HW:=af hW
 have HB:=af hB
 clear hW hB
 go_enter func76,ntmps76
 go_wp2
 rw[← ae HW]
 obtain⟨ga,hga⟩:∃ ga,ga=w.heap.size:=⟨_,rfl⟩
 obtain⟨gb,hgb⟩:∃ gb,gb=w.heap.size+1:=⟨_,rfl⟩
 rw[← hga] at x0 x1 x2 x3
 rw[← hgb] at y0 y1 y2 y3
 rw[← hgb,← hga]
 clear hga hgb HW
 go_region_held (fun w'=>w'.cell? ⟨ga,0,none⟩=some (.bool s1)∧w'.cell? ⟨ga,1,none⟩=some (.int .u64 (a:Int))∧w'.cell? ⟨ga,2,none⟩=some (.int .u64 ((b:Int)-1))∧w'.cell? ⟨ga,3,none⟩=some (.pointer none)∧w'.cell? ⟨gb,0,none⟩=some (.bool s2)∧w'.cell? ⟨gb,1,none⟩=some (.int .u64 (c:Int))∧w'.cell? ⟨gb,2,none⟩=some (.int .u64 ((d:Int)-1))∧w'.cell? ⟨gb,3,none⟩=some (.pointer none)) (go_keep) (first
  | (go_at_call 88;refine (ae U2 _).mono ?_;rintro e w1 ⟨rfl,hb1⟩;have B1:But [] W w1:=(by first | exact hb1 | exact (But.refl _ _).drew.trans' hb1);have k0:=B1.ag x0 (by simp);have k1:=B1.ag x1 (by simp);have k2:=B1.ag x2 (by simp);have k3:=B1.ag x3 (by simp);have l0:=B1.ag y0 (by simp);have l1:=B1.ag y1 (by simp);have l2:=B1.ag y2 (by simp);have l3:=B1.ag y3 (by simp))
  | (go_at_call 131;refine (ae M1 _).mono ?_;rintro e w2 ⟨rfl,hw2⟩;obtain rfl:=hw2.symm;clear hw2))
 have HB1:Hid (But [] w w1):=(ae HB).trans' B1
 clear B1 hb1 x0 x1 x2 x3 y0 y1 y2 y3 HB
 go_wp2
 go_region_held (fun w'=>w'.cell? ⟨ga,0,none⟩=some (.bool s1)∧w'.cell? ⟨ga,1,none⟩=some (.int .u64 (a:Int))∧w'.cell? ⟨ga,2,none⟩=some (.int .u64 ((b:Int)-1))∧w'.cell? ⟨ga,3,none⟩=some (.pointer none)∧w'.cell? ⟨gb,0,none⟩=some (.bool s2)∧w'.cell? ⟨gb,1,none⟩=some (.int .u64 (c:Int))∧w'.cell? ⟨gb,2,none⟩=some (.int .u64 ((d:Int)-1))∧w'.cell? ⟨gb,3,none⟩=some (.pointer none)) (go_keep) (first
  | (go_at_call 88;refine (ae U1 _).mono ?_;rintro e w3 ⟨rfl,hb3⟩;have B3:But [] w1 w3:=(by first | exact hb3 | exact (But.refl _ _).drew.trans' hb3);have m0:=B3.ag k0 (by simp);have m1:=B3.ag k1 (by simp);have m2:=B3.ag k2 (by simp);have m3:=B3.ag k3 (by simp);have n0:=B3.ag l0 (by simp);have n1:=B3.ag l1 (by simp);have n2:=B3.ag l2 (by simp);have n3:=B3.ag l3 (by simp))
  | (go_at_call 131;refine (ae M2 _).mono ?_;rintro e w4 ⟨rfl,hw4⟩;obtain rfl:=hw4.symm;clear hw4))
 have HB3:Hid (But [] w w3):=(ae HB1).trans' B3
 clear B3 hb3 k0 k1 k2 k3 l0 l1 l2 l3 m0 m1 m2 m3 n0 n1 n2 n3 HB1
 go_wp2_with fail
 refine (ae C1 _).mono ?_
 rintro e w5 ⟨rfl,hw5⟩
 obtain rfl:=hw5.symm
 clear hw5
 go_wp2_with fail
 refine (ae C2 _).mono ?_
 rintro e w5 ⟨rfl,hw5⟩
 obtain rfl:=hw5.symm
 clear hw5
 go_wp2_with fail
 refine (qja w3.heap.size z1 z2 _ (by simp) (by simp) r hrr).mono ?_
 rintro e w6 ⟨rfl,hb6⟩
 have HB6:Hid (But [] w w6):=((ae HB3).alloc _).trans' hb6
 clear hb6
 go_wp2
 go_ret
 exact⟨rfl,ae HB6⟩
theorem zmj (vf vg:Value) (f g:Rat) (w:World) (hf:aq w vf f) (hg:aq w vg g) (lf:Len f 33554431) (lg:Len g 33554431) (r:Int) (hr:Hid (r=zz (f.num.natAbs*g.den) (g.num.natAbs*f.den))) :
  Calls prog 76 #[vf,vg] w fun e w'=>e=.returned (.int .i64 r)∧But [] w w':=by
 have hq1:=den_pos f
 have hq2:=den_pos g
 have NF:Hid (∀ W,But [] w W→Calls prog 37 #[vf] W fun e w'=>∃ v1 v2,e=.returned (.tuple #[v1,v2])∧Sl .u64 w' v1 (wd 18446744073709551616 f.num.natAbs)∧Sl .u64 w' v2 (wd 18446744073709551616 f.den)∧But [] W w'):=fun W hb=>ut vf f W (hf.but hb)
 have NG:Hid (∀ W,But [] w W→Calls prog 37 #[vg] W fun e w'=>∃ v1 v2,e=.returned (.tuple #[v1,v2])∧Sl .u64 w' v1 (wd 18446744073709551616 g.num.natAbs)∧Sl .u64 w' v2 (wd 18446744073709551616 g.den)∧But [] W w'):=fun W hb=>ut vg g W (hg.but hb)
 have CP:Hid (∀ W na nb nc nd,Sl .u64 W na (wd 18446744073709551616 f.num.natAbs)→Sl .u64 W nb (wd 18446744073709551616 f.den)→Sl .u64 W nc (wd 18446744073709551616 g.num.natAbs)→Sl .u64 W nd (wd 18446744073709551616 g.den)→Calls prog 134 #[na,nd,nc,nb] W fun e w'=>e=.returned (.int .i64 r)∧But [] W w'):=fun W na nb nc nd h1 h2 h3 h4=>zpe na nd nc nb _ _ _ _ W h1 h4 h3 h2 (by have:=lf.1;omega) (by have:=lg.2;omega) (by have:=lg.1;omega) (by have:=lf.2;omega) r hr
 have LARGE:∀ (s1 s2:Bool) (x1 y1 x2 y2:Int) (p1 p2:Option Addr),vf=.agg #[.bool s1,.int .u64 x1,.int .u64 y1,.pointer p1]→vg=.agg #[.bool s2,.int .u64 x2,.int .u64 y2,.pointer p2]→(p1≠none∨p2≠none)→Calls prog 76 #[vf,vg] w fun e w'=>e=.returned (.int .i64 r)∧But [] w w':=by
  intro s1 s2 x1 y1 x2 y2 p1 p2 ef eg hp
  subst ef
  subst eg
  clear hf hg lf lg hr hq1 hq2
  obtain⟨W,hW⟩:∃ W,W=((w.alloc (.cells #[.bool s1,.int .u64 x1,.int .u64 y1,.pointer p1] 27)).alloc (.cells #[.bool s2,.int .u64 x2,.int .u64 y2,.pointer p2] 27)):=⟨_,rfl⟩
  obtain⟨tA,tB,-,hB⟩:=zkp w W _ _ _ hW
  have y0:=tB 0
  have y1:=tB 1
  have y2:=tB 2
  have y3:=tB 3
  simp only[List.getElem?_toArray,List.getElem?_cons_zero,List.getElem?_cons_succ] at y0 y1 y2 y3
  clear tA tB
  have HW:=af hW
  have HB:=af hB
  clear hW hB
  rcases p1 with _ | p1
  ·rcases p2 with _ | p2
   ·simp at hp
   ·clear hp
    go_enter func76,ntmps76
    go_wp2_with fail
    rw[← ae HW]
    obtain⟨gb,hgb⟩:∃ gb,gb=w.heap.size+1:=⟨_,rfl⟩
    rw[← hgb] at y0 y1 y2 y3
    rw[← hgb]
    clear hgb HW
    refine (ae NF _ (ae HB)).mono ?_
    rintro e w1 ⟨na,nb,rfl,hna,hnb,hb1⟩
    have d0:=hb1.ag y0 (by simp)
    have d1:=hb1.ag y1 (by simp)
    have d2:=hb1.ag y2 (by simp)
    have d3:=hb1.ag y3 (by simp)
    have HB1:Hid (But [] w w1):=(ae HB).trans' hb1
    have SA:=af hna
    have SB:=af hnb
    clear hb1 hna hnb y0 y1 y2 y3
    go_wp2_with fail
    refine (ae NG _ (ae HB1)).mono ?_
    rintro e w2 ⟨nc,nd,rfl,hnc,hnd,hb2⟩
    have HB2:Hid (But [] w w2):=(ae HB1).trans' hb2
    have SA2:=af ((ae SA).ah hb2)
    have SB2:=af ((ae SB).ah hb2)
    have SC:=af hnc
    have SD:=af hnd
    clear hb2 hnc hnd d0 d1 d2 d3
    go_wp2_with fail
    refine (ae CP _ na nb nc nd (ae SA2) (ae SB2) (ae SC) (ae SD)).mono ?_
    rintro e w3 ⟨rfl,hb3⟩
    have HB3:Hid (But [] w w3):=(ae HB2).trans' hb3
    clear hb3
    go_wp2
    go_ret
    exact⟨rfl,ae HB3⟩
  ·clear hp
   go_enter func76,ntmps76
   go_wp2_with fail
   rw[← ae HW]
   obtain⟨gb,hgb⟩:∃ gb,gb=w.heap.size+1:=⟨_,rfl⟩
   rw[← hgb] at y0 y1 y2 y3
   rw[← hgb]
   clear hgb HW
   refine (ae NF _ (ae HB)).mono ?_
   rintro e w1 ⟨na,nb,rfl,hna,hnb,hb1⟩
   have d0:=hb1.ag y0 (by simp)
   have d1:=hb1.ag y1 (by simp)
   have d2:=hb1.ag y2 (by simp)
   have d3:=hb1.ag y3 (by simp)
   have HB1:Hid (But [] w w1):=(ae HB).trans' hb1
   have SA:=af hna
   have SB:=af hnb
   clear hb1 hna hnb y0 y1 y2 y3
   go_wp2_with fail
   refine (ae NG _ (ae HB1)).mono ?_
   rintro e w2 ⟨nc,nd,rfl,hnc,hnd,hb2⟩
   have HB2:Hid (But [] w w2):=(ae HB1).trans' hb2
   have SA2:=af ((ae SA).ah hb2)
   have SB2:=af ((ae SB).ah hb2)
   have SC:=af hnc
   have SD:=af hnd
   clear hb2 hnc hnd d0 d1 d2 d3
   go_wp2_with fail
   refine (ae CP _ na nb nc nd (ae SA2) (ae SB2) (ae SC) (ae SD)).mono ?_
   rintro e w3 ⟨rfl,hb3⟩
   have HB3:Hid (But [] w w3):=(ae HB2).trans' hb3
   clear hb3
   go_wp2
   go_ret
   exact⟨rfl,ae HB3⟩
 rcases hf.agg with ⟨x1,y1,p1,ef,h1⟩
 rcases hg.agg with ⟨x2,y2,p2,eg,h2⟩
 rcases p1 with _ | p1
 ·rcases p2 with _ | p2
  ·obtain⟨a1,a2,a3,a4⟩:=h1 rfl
   obtain⟨c1,c2,c3,c4⟩:=h2 rfl
   rw[ef,eg,a3,a4,c3,c4]
   exact zsk _ _ _ _ _ _ a1 a2 c1 c2 hq1 hq2 w r hr
  ·exact LARGE _ _ _ _ _ _ _ _ ef eg (.inr (by simp))
 ·exact LARGE _ _ _ _ _ _ _ _ ef eg (.inl (by simp))
def zhh (x y:Int):Int:=if x<y then -1 else if x=y then 0 else 1
theorem qok (m n:Nat):zhh (m:Int) (n:Int)=zz m n:=by
 unfold zhh zz
 rcases Nat.lt_trichotomy m n with h | h | h
 ·rw[if_pos (by omega),if_pos h]
 ·subst h;simp
 ·rw[if_neg (by omega),if_neg (by omega),if_neg (by omega),if_neg (by omega)]
theorem qoj (m n:Nat):zhh (-(m:Int)) (-(n:Int))=zz n m:=by
 unfold zhh zz
 rcases Nat.lt_trichotomy n m with h | h | h
 ·rw[if_pos (by omega),if_pos h]
 ·subst h;simp
 ·rw[if_neg (by omega),if_neg (by omega),if_neg (by omega),if_neg (by omega)]
theorem zxf {x y:Int} (h:x<y):zhh x y=-1:=by unfold zhh;rw[if_pos h]
theorem zxg {x y:Int} (h:y<x):zhh x y=1:=by unfold zhh;rw[if_neg (by omega),if_neg (by omega)]
theorem sign_mul (F:Int) (q:Nat) (hq:0<q):(F<0→F*q<0)∧(F=0→F*q=0)∧(0<F→0<F*q) :=
 ⟨fun h=>Int.mul_neg_of_neg_of_pos h (by omega),fun h=>by rw[h,Int.zero_mul],fun h=>Int.mul_pos h (by omega)⟩
theorem qix (F G:Int) (p q:Nat) (hp:0<p) (hq:0<q) (h:F.sign≠G.sign):zhh (F*q) (G*p)=zhh F.sign G.sign:=by
 obtain⟨f1,f2,f3⟩:=sign_mul F q hq
 obtain⟨g1,g2,g3⟩:=sign_mul G p hp
 have s1:=@Int.sign_eq_neg_one_of_neg F
 have s3:=@Int.sign_eq_one_of_pos F
 have t1:=@Int.sign_eq_neg_one_of_neg G
 have t3:=@Int.sign_eq_one_of_pos G
 have s2:F=0→F.sign=0:=fun e=>by rw[e];rfl
 have t2:G=0→G.sign=0:=fun e=>by rw[e];rfl
 generalize F*q=x at *
 generalize G*p=y at *
 generalize F.sign=a at *
 generalize G.sign=b at *
 rcases Int.lt_trichotomy a b with hab | hab | hab
 ·rw[zxf hab,zxf (by omega)]
 ·exact absurd hab h
 ·rw[zxg hab,zxg (by omega)]
theorem qiy (F G:Int) (p q:Nat) (h:F.sign=G.sign) (hF:F<0):zhh (F*q) (G*p)=zz (G.natAbs*p) (F.natAbs*q):=by
 have hG:G<0:=by
  have:=Int.sign_eq_neg_one_of_neg hF
  rw[h] at this
  exact Int.neg_of_sign_eq_neg_one this
 have e1:F*q=-((F.natAbs*q:Nat):Int):=by
  rw[Int.natCast_mul,← Int.neg_mul];congr 1;omega
 have e2:G*p=-((G.natAbs*p:Nat):Int):=by
  rw[Int.natCast_mul,← Int.neg_mul];congr 1;omega
 rw[e1,e2,qoj]
theorem qiz (F G:Int) (p q:Nat) (h:F.sign=G.sign) (hF:¬ F<0):zhh (F*q) (G*p)=zz (F.natAbs*q) (G.natAbs*p):=by
 have hG:¬ G<0:=by
  intro hG
  have:=Int.sign_eq_neg_one_of_neg hG
  rw[← h] at this
  exact hF (Int.neg_of_sign_eq_neg_one this)
 have e1:F*q=((F.natAbs*q:Nat):Int):=by
  rw[Int.natCast_mul];congr 1;omega
 have e2:G*p=((G.natAbs*p:Nat):Int):=by
  rw[Int.natCast_mul];congr 1;omega
 rw[e1,e2,qok]
theorem qoi (x y:Int) (w:World) (r:Int) (hr:Hid (r=zhh x y)) :
  Calls prog 75 #[.int .i64 x,.int .i64 y] w fun e w'=>e=.returned (.int .i64 r)∧w'=w:=by
 rcases Int.lt_trichotomy x y with h | h | h
 ·have e:Hid (r=-1):=by show _=_;rw[ae hr,zxf h]
  clear hr
  go_enter func75,ntmps75
  go_wp2
  go_ret
  exact⟨by rw[ae e];rfl,rfl⟩
 ·subst h
  have e:Hid (r=0):=by show _=_;rw[ae hr];simp[zhh]
  clear hr
  go_enter func75,ntmps75
  go_wp2
  go_ret
  exact⟨by rw[ae e];rfl,rfl⟩
 ·have e:Hid (r=1):=by show _=_;rw[ae hr,zxg h]
  clear hr
  have h':¬ x<y:=by omega
  go_enter func75,ntmps75
  go_wp2
  go_ret
  exact⟨by rw[ae e];rfl,rfl⟩
theorem zot (vf vg:Value) (f g:Rat) (w:World) (hf:aq w vf f) (hg:aq w vg g) (lf:Len f 33554431) (lg:Len g 33554431) (r:Int) (hr:Hid (r=zhh (f.num*g.den) (g.num*f.den))) :
  Calls prog 33 #[vf,vg] w fun e w'=>e=.returned (.int .i64 r)∧But [] w w':=by
 have hq1:=den_pos f
 have hq2:=den_pos g
 have SF:Hid (∀ W,But [] w W→Calls prog 25 #[vf] W fun e w'=>e=.returned (.int .i64 f.num.sign)∧But [] W w'):=fun W hb=>j6 vf f W (hf.but hb)
 have SG:Hid (∀ W,But [] w W→Calls prog 25 #[vg] W fun e w'=>e=.returned (.int .i64 g.num.sign)∧But [] W w'):=fun W hb=>j6 vg g W (hg.but hb)
 have CS1:Hid (f.num.sign=g.num.sign→¬ f.num<0→∀ W,But [] w W→Calls prog 76 #[vf,vg] W fun e w'=>e=.returned (.int .i64 r)∧But [] W w'):=fun h1 h2 W hb=>zmj vf vg f g W (hf.but hb) (hg.but hb) lf lg r (by show _=_;rw[ae hr,qiz _ _ _ _ h1 h2])
 have CS2:Hid (f.num.sign=g.num.sign→f.num<0→∀ W,But [] w W→Calls prog 76 #[vg,vf] W fun e w'=>e=.returned (.int .i64 r)∧But [] W w'):=fun h1 h2 W hb=>zmj vg vf g f W (hg.but hb) (hf.but hb) lg lf r (by show _=_;rw[ae hr,qiy _ _ _ _ h1 h2])
 have CZ:Hid (f.num.sign≠g.num.sign→∀ W,Calls prog 75 #[.int .i64 f.num.sign,.int .i64 g.num.sign] W fun e w'=>e=.returned (.int .i64 r)∧w'=W):=fun h1 W=>qoi _ _ W r (by show _=_;rw[ae hr,qix _ _ _ _ hq1 hq2 h1])
 obtain⟨x1,y1,p1,rfl,-⟩:=hf.agg
 obtain⟨x2,y2,p2,rfl,-⟩:=hg.agg
 clear hf hg lf lg hr hq1 hq2
 obtain⟨W,hW⟩:∃ W,W=((w.alloc (.cells #[.bool (decide (f.num<0)),.int .u64 x1,.int .u64 y1,.pointer p1] 27)).alloc (.cells #[.bool (decide (g.num<0)),.int .u64 x2,.int .u64 y2,.pointer p2] 27)):=⟨_,rfl⟩
 obtain⟨tA,tB,fzb,hB⟩:=zkp w W _ _ _ hW
 have fza:∀ j,W.frozen? ⟨w.heap.size,j,none⟩=false:=fun j=>by rw[hW];simp
 have a0:=tA 0
 have a1:=tA 1
 have a2:=tA 2
 have a3:=tA 3
 have b0:=tB 0
 have b1:=tB 1
 have b2:=tB 2
 have b3:=tB 3
 simp only[List.getElem?_toArray,List.getElem?_cons_zero,List.getElem?_cons_succ] at a0 a1 a2 a3 b0 b1 b2 b3
 clear tA tB
 have HW:=af hW
 have HB:=af hB
 clear hW hB
 obtain⟨s1,hs1⟩:∃ s1,s1=decide (f.num<0):=⟨_,rfl⟩
 obtain⟨s2,hs2⟩:∃ s2,s2=decide (g.num<0):=⟨_,rfl⟩
 rw[← hs1] at HW SF CS1 CS2 a0 ⊢
 rw[← hs2] at HW SG CS1 CS2 b0 ⊢
 have HS1:=af hs1
 clear hs1 hs2
 obtain⟨ga,hga⟩:∃ ga,ga=w.heap.size:=⟨_,rfl⟩
 obtain⟨gb,hgb⟩:∃ gb,gb=w.heap.size+1:=⟨_,rfl⟩
 rw[← hga] at a0 a1 a2 a3 fza
 rw[← hgb] at b0 b1 b2 b3 fzb
 have HGA:Hid (w.heap.size≤ga):=by show _≤_;omega
 have HGB:Hid (w.heap.size≤gb):=by show _≤_;omega
 have nab:ga≠gb:=by omega
 have hsz:=And.intro hga hgb
 have HSZ:=af hsz
 clear hga hgb hsz
 by_cases hsig:f.num.sign=g.num.sign
 ·have dn:(g.num.sign != g.num.sign)=false:=by simp
  rw[hsig] at SF
  have CS1':Hid (s1=false→∀ W,But [] w W→Calls prog 76 #[.agg #[.bool s1,.int .u64 x1,.int .u64 y1,.pointer p1],.agg #[.bool s2,.int .u64 x2,.int .u64 y2,.pointer p2]] W fun e w'=>e=.returned (.int .i64 r)∧But [] W w'):=fun e=>ae CS1 hsig (by rw[ae HS1] at e;exact of_decide_eq_false e)
  have CS2':Hid (s1=true→∀ W,But [] w W→Calls prog 76 #[.agg #[.bool s2,.int .u64 x2,.int .u64 y2,.pointer p2],.agg #[.bool s1,.int .u64 x1,.int .u64 y1,.pointer p1]] W fun e w'=>e=.returned (.int .i64 r)∧But [] W w'):=fun e=>ae CS2 hsig (by rw[ae HS1] at e;exact of_decide_eq_true e)
  clear CS1 CS2 CZ hsig HS1
  generalize g.num.sign=sg at *
  go_enter func33,ntmps33
  go_wp2
  rw[← ae HW,← (ae HSZ).2,← (ae HSZ).1]
  clear HW HSZ
  go_region_held (fun w'=>w'.cell? ⟨ga,0,none⟩=some (.bool s1)∧w'.cell? ⟨ga,1,none⟩=some (.int .u64 x1)∧w'.cell? ⟨ga,2,none⟩=some (.int .u64 y1)∧w'.cell? ⟨ga,3,none⟩=some (.pointer p1)∧w'.cell? ⟨gb,0,none⟩=some (.bool s2)∧w'.cell? ⟨gb,1,none⟩=some (.int .u64 x2)∧w'.cell? ⟨gb,2,none⟩=some (.int .u64 y2)∧w'.cell? ⟨gb,3,none⟩=some (.pointer p2)) (go_keep) (first
   | (go_at_call 25;have hchk:=B1;clear hchk;refine (ae SG _ (by first | exact (ae HB).trans' B1 | exact ((ae HB).trans' B1).drew)).mono ?_;rintro e w2 ⟨rfl,hc2⟩;have B2:But [] W w2:=(by first | exact B1.trans' hc2 | exact (B1.drew).trans' hc2);clear hc2;have m0:=B2.ag a0 (by simp);have m1:=B2.ag a1 (by simp);have m2:=B2.ag a2 (by simp);have m3:=B2.ag a3 (by simp);have n0:=B2.ag b0 (by simp);have n1:=B2.ag b1 (by simp);have n2:=B2.ag b2 (by simp);have n3:=B2.ag b3 (by simp))
   | (go_at_call 25;refine (ae SF _ (by first | exact ae HB | exact (ae HB).drew)).mono ?_;rintro e w1 ⟨rfl,hc1⟩;have B1:But [] W w1:=(by first | exact hc1 | exact (But.refl _ _).drew.trans' hc1);clear hc1;have k0:=B1.ag a0 (by simp);have k1:=B1.ag a1 (by simp);have k2:=B1.ag a2 (by simp);have k3:=B1.ag a3 (by simp);have l0:=B1.ag b0 (by simp);have l1:=B1.ag b1 (by simp);have l2:=B1.ag b2 (by simp);have l3:=B1.ag b3 (by simp)))
  have gla:ga<W.heap.size:=ai a0
  have glb:gb<W.heap.size:=ai b0
  replace fza:∀ j,w2.frozen? ⟨ga,j,none⟩=false:=fun j=>(B2.frozen (p:=⟨ga,j,none⟩) gla (by simp)).trans (fza j)
  replace fzb:∀ j,w2.frozen? ⟨gb,j,none⟩=false:=fun j=>(B2.frozen (p:=⟨gb,j,none⟩) glb (by simp)).trans (fzb j)
  replace HB:Hid (But [] w w2):=(ae HB).trans' B2
  clear B1 B2 a0 a1 a2 a3 b0 b1 b2 b3 k0 k1 k2 k3 l0 l1 l2 l3 gla glb
  have a0:=m0
  have a1:=m1
  have a2:=m2
  have a3:=m3
  have b0:=n0
  have b1:=n1
  have b2:=n2
  have b3:=n3
  clear m0 m1 m2 m3 n0 n1 n2 n3
  cases s1
  ·have C1:=af (ae CS1' rfl)
   clear CS1' CS2'
   go_wp2_with fail
   refine (ae C1 _ (ae HB)).mono ?_
   rintro e w3 ⟨rfl,hb3⟩
   have HB3:Hid (But [] w w3):=(ae HB).trans' hb3
   clear hb3
   go_wp2
   go_ret
   exact⟨rfl,ae HB3⟩
  ·have C2:=af (ae CS2' rfl)
   clear CS1' CS2'
   go_wp2_with fail
   have HBs:=af ((((((((((ae HB).setCell (p:=⟨ga,0,none⟩) (.inr (ae HGA)) (.bool s2)).setCell (p:=⟨ga,1,none⟩) (.inr (ae HGA)) (.int .u64 x2)).setCell (p:=⟨ga,2,none⟩) (.inr (ae HGA)) (.int .u64 y2)).setCell (p:=⟨ga,3,none⟩) (.inr (ae HGA)) (.pointer p2)).setCell (p:=⟨gb,0,none⟩) (.inr (ae HGB)) (.bool true)).setCell (p:=⟨gb,1,none⟩) (.inr (ae HGB)) (.int .u64 x1)).setCell (p:=⟨gb,2,none⟩) (.inr (ae HGB)) (.int .u64 y1)).setCell (p:=⟨gb,3,none⟩) (.inr (ae HGB)) (.pointer p1)))
   refine (ae C2 _ (ae HBs)).mono ?_
   rintro e w3 ⟨rfl,hb3⟩
   have HB3:Hid (But [] w w3):=(ae HBs).trans' hb3
   clear hb3
   go_wp2
   go_ret
   exact⟨rfl,ae HB3⟩
 ·have dn:(f.num.sign != g.num.sign)=true:=by simp[hsig]
  have CZ':=af (ae CZ hsig)
  clear CS1 CS2 CZ hsig HS1
  generalize f.num.sign=sf at *
  generalize g.num.sign=sg at *
  go_enter func33,ntmps33
  go_wp2
  rw[← ae HW,← (ae HSZ).2,← (ae HSZ).1]
  clear HW HSZ
  go_region_held (fun w'=>w'.cell? ⟨ga,0,none⟩=some (.bool s1)∧w'.cell? ⟨ga,1,none⟩=some (.int .u64 x1)∧w'.cell? ⟨ga,2,none⟩=some (.int .u64 y1)∧w'.cell? ⟨ga,3,none⟩=some (.pointer p1)∧w'.cell? ⟨gb,0,none⟩=some (.bool s2)∧w'.cell? ⟨gb,1,none⟩=some (.int .u64 x2)∧w'.cell? ⟨gb,2,none⟩=some (.int .u64 y2)∧w'.cell? ⟨gb,3,none⟩=some (.pointer p2)) (go_keep) (first
   | (go_at_call 25;have hchk:=B1;clear hchk;refine (ae SG _ (by first | exact (ae HB).trans' B1 | exact ((ae HB).trans' B1).drew)).mono ?_;rintro e w2 ⟨rfl,hc2⟩;have B2:But [] W w2:=(by first | exact B1.trans' hc2 | exact (B1.drew).trans' hc2);clear hc2;have m0:=B2.ag a0 (by simp);have m1:=B2.ag a1 (by simp);have m2:=B2.ag a2 (by simp);have m3:=B2.ag a3 (by simp);have n0:=B2.ag b0 (by simp);have n1:=B2.ag b1 (by simp);have n2:=B2.ag b2 (by simp);have n3:=B2.ag b3 (by simp))
   | (go_at_call 25;refine (ae SF _ (by first | exact ae HB | exact (ae HB).drew)).mono ?_;rintro e w1 ⟨rfl,hc1⟩;have B1:But [] W w1:=(by first | exact hc1 | exact (But.refl _ _).drew.trans' hc1);clear hc1;have k0:=B1.ag a0 (by simp);have k1:=B1.ag a1 (by simp);have k2:=B1.ag a2 (by simp);have k3:=B1.ag a3 (by simp);have l0:=B1.ag b0 (by simp);have l1:=B1.ag b1 (by simp);have l2:=B1.ag b2 (by simp);have l3:=B1.ag b3 (by simp)))
  have gla:ga<W.heap.size:=ai a0
  have glb:gb<W.heap.size:=ai b0
  replace fza:∀ j,w2.frozen? ⟨ga,j,none⟩=false:=fun j=>(B2.frozen (p:=⟨ga,j,none⟩) gla (by simp)).trans (fza j)
  replace fzb:∀ j,w2.frozen? ⟨gb,j,none⟩=false:=fun j=>(B2.frozen (p:=⟨gb,j,none⟩) glb (by simp)).trans (fzb j)
  replace HB:Hid (But [] w w2):=(ae HB).trans' B2
  clear B1 B2 a0 a1 a2 a3 b0 b1 b2 b3 k0 k1 k2 k3 l0 l1 l2 l3 gla glb
  have a0:=m0
  have a1:=m1
  have a2:=m2
  have a3:=m3
  have b0:=n0
  have b1:=n1
  have b2:=n2
  have b3:=n3
  clear m0 m1 m2 m3 n0 n1 n2 n3
  go_wp2
  go_region_held (fun w'=>w'.cell? ⟨ga,0,none⟩=some (.bool s1)∧w'.cell? ⟨ga,1,none⟩=some (.int .u64 x1)∧w'.cell? ⟨ga,2,none⟩=some (.int .u64 y1)∧w'.cell? ⟨ga,3,none⟩=some (.pointer p1)∧w'.cell? ⟨gb,0,none⟩=some (.bool s2)∧w'.cell? ⟨gb,1,none⟩=some (.int .u64 x2)∧w'.cell? ⟨gb,2,none⟩=some (.int .u64 y2)∧w'.cell? ⟨gb,3,none⟩=some (.pointer p2)) (go_keep) (first
   | (go_at_call 25;have hchk:=B3;clear hchk;refine (ae SG _ (by first | exact (ae HB).trans' B3 | exact ((ae HB).trans' B3).drew)).mono ?_;rintro e w4 ⟨rfl,hc2⟩;have B4:But [] w2 w4:=(by first | exact B3.trans' hc2 | exact (B3.drew).trans' hc2);clear hc2;have m0:=B4.ag a0 (by simp);have m1:=B4.ag a1 (by simp);have m2:=B4.ag a2 (by simp);have m3:=B4.ag a3 (by simp);have n0:=B4.ag b0 (by simp);have n1:=B4.ag b1 (by simp);have n2:=B4.ag b2 (by simp);have n3:=B4.ag b3 (by simp))
   | (go_at_call 25;refine (ae SF _ (by first | exact ae HB | exact (ae HB).drew)).mono ?_;rintro e w3 ⟨rfl,hc1⟩;have B3:But [] w2 w3:=(by first | exact hc1 | exact (But.refl _ _).drew.trans' hc1);clear hc1;have k0:=B3.ag a0 (by simp);have k1:=B3.ag a1 (by simp);have k2:=B3.ag a2 (by simp);have k3:=B3.ag a3 (by simp);have l0:=B3.ag b0 (by simp);have l1:=B3.ag b1 (by simp);have l2:=B3.ag b2 (by simp);have l3:=B3.ag b3 (by simp))
   | (go_at_call 75;refine (ae CZ' _).mono ?_;rintro e w5 ⟨rfl,hw5⟩;obtain rfl:=hw5.symm;clear hw5))
  have HB5:Hid (But [] w w4):=(ae HB).trans' B4
  clear B3 B4
  go_wp2
  go_ret
  exact⟨rfl,ae HB5⟩
theorem qdc (s:Bool) (p q:Nat) (hq:0<q) (hc:Nat.Coprime p q):∃ f:Rat,f.num=sgn s p∧f.den=q :=
 ⟨⟨sgn s p,q,by omega,by rw[xk];exact hc⟩,rfl,rfl⟩
theorem zwx (x y:Nat) (hy:0<y):Nat.Coprime (x/Nat.gcd x y) (y/Nat.gcd x y):=Nat.coprime_div_gcd_div_gcd (Nat.gcd_pos_of_pos_right _ hy)
theorem zhb {f:Rat} {m n:Nat} (h1:f.num.natAbs < 18446744073709551616^m) (h2:f.den < 18446744073709551616^n) (k:Nat) (hm:m≤k) (hn:n≤k):Len f k :=
 ⟨Nat.le_trans (aj (by omega) _ _ h1) hm,Nat.le_trans (aj (by omega) _ _ h2) hn⟩
theorem Len.mono {f:Rat} {m n:Nat} (h:Len f m) (hn:m≤n):Len f n:=⟨Nat.le_trans h.1 hn,Nat.le_trans h.2 hn⟩
theorem Len.lt {f:Rat} {m:Nat} (h:Len f m):f.num.natAbs < 18446744073709551616^m∧f.den < 18446744073709551616^m:=⟨am (by omega) _ _ h.1,am (by omega) _ _ h.2⟩
theorem jd {f g:Rat} {m n:Nat} (h1:Len f m) (h2:Len g n) (k:Nat) (hk:m+n≤k):Len (f*g) k:=by
 obtain⟨a1,a2⟩:=h1.lt
 obtain⟨c1,c2⟩:=h2.lt
 obtain⟨e1,e2⟩:=zpn f g _ _ rfl rfl
 refine zhb (m:=m+n) (n:=m+n) ?_ ?_ k hk hk
 ·rw[e1,xk,Nat.pow_add]
  exact Nat.mul_lt_mul'' (Nat.lt_of_le_of_lt (Nat.div_le_self _ _) a1) (Nat.lt_of_le_of_lt (Nat.div_le_self _ _) c1)
 ·rw[e2,Nat.pow_add]
  exact Nat.mul_lt_mul'' (Nat.lt_of_le_of_lt (Nat.div_le_self _ _) a2) (Nat.lt_of_le_of_lt (Nat.div_le_self _ _) c2)
theorem mi {f g:Rat} {m n:Nat} (h1:Len f m) (h2:Len g n) (k:Nat) (hk:m+n+1≤k):Len (f+g) k:=by
 obtain⟨a1,a2⟩:=h1.lt
 obtain⟨c1,c2⟩:=h2.lt
 obtain⟨M,s,hM⟩:∃ (M:Nat) (s:Bool),f.num*(g.den/Nat.gcd f.den g.den:Nat)+g.num*(f.den/Nat.gcd f.den g.den:Nat)=sgn s M:=by
  generalize f.num*(g.den/Nat.gcd f.den g.den:Nat)+g.num*(f.den/Nat.gcd f.den g.den:Nat)=z
  by_cases hz:z<0
  ·exact⟨z.natAbs,true,by simp[sgn];omega⟩
  ·exact⟨z.natAbs,false,by simp[sgn];omega⟩
 obtain⟨e1,e2⟩:=zps f g s M _ _ rfl rfl hM
 have hMl:M < 18446744073709551616^(m+n+1):=by
  have h3:M≤f.num.natAbs*(g.den/Nat.gcd f.den g.den)+g.num.natAbs*(f.den/Nat.gcd f.den g.den):=by
   rw[← xk s M,← hM]
   refine Nat.le_trans (Int.natAbs_add_le _ _) ?_
   rw[Int.natAbs_mul,Int.natAbs_mul,Int.natAbs_natCast,Int.natAbs_natCast]
   exact Nat.le_refl _
  have h4:f.num.natAbs*(g.den/Nat.gcd f.den g.den) < 18446744073709551616^m * 18446744073709551616^n:=Nat.mul_lt_mul'' a1 (Nat.lt_of_le_of_lt (Nat.div_le_self _ _) c2)
  have h5:g.num.natAbs*(f.den/Nat.gcd f.den g.den) < 18446744073709551616^n * 18446744073709551616^m:=Nat.mul_lt_mul'' c1 (Nat.lt_of_le_of_lt (Nat.div_le_self _ _) a2)
  rw[Nat.mul_comm (18446744073709551616^n)] at h5
  rw[Nat.pow_succ,Nat.pow_add]
  generalize 18446744073709551616^m * 18446744073709551616^n=P at *
  omega
 refine zhb (m:=m+n+1) (n:=m+n) ?_ ?_ k hk (by omega)
 ·rw[e1,xk];exact Nat.lt_of_le_of_lt (Nat.div_le_self _ _) hMl
 ·rw[e2,Nat.pow_add]
  exact Nat.mul_lt_mul'' (Nat.lt_of_le_of_lt (Nat.div_le_self _ _) a2) (Nat.lt_of_le_of_lt (Nat.div_le_self _ _) c2)
theorem zwo {f:Rat} {m:Nat} (h:Len f m):Len (-f) m:=by
 unfold Len
 rw[Rat.neg_num,Rat.neg_den,Int.natAbs_neg]
 exact h
theorem fe {f g:Rat} {m n:Nat} (h1:Len f m) (h2:Len g n) (k:Nat) (hk:m+n+1≤k):Len (f-g) k:=by
 rw[Rat.sub_eq_add_neg];exact mi h1 (zwo h2) k hk
theorem zwq {f:Rat} {m:Nat} (h:Len f m) (h0:f.num≠0):Len f⁻¹ m:=by
 obtain⟨i1,i2,-⟩:=zgn f h0
 unfold Len
 rw[i1,i2]
 exact⟨h.2,h.1⟩
theorem ru {f g:Rat} {m n:Nat} (h1:Len f m) (h2:Len g n) (h0:g.num≠0) (k:Nat) (hk:m+n≤k):Len (f/g) k:=by
 rw[Rat.div_def];exact jd h1 (zwq h2 h0) k hk
theorem qdg (x y:Int) (p q k:Nat) (hx:x.natAbs=p*k) (hy:y.natAbs=q*k):sgn (decide (x<0) != decide (y<0)) p*y=x*q:=by
 have ex:x=sgn (decide (x<0)) (p*k):=by
  by_cases h:x<0
  ·simp[sgn,h];omega
  ·simp[sgn,h];omega
 have ey:y=sgn (decide (y<0)) (q*k):=by
  by_cases h:y<0
  ·simp[sgn,h];omega
  ·simp[sgn,h];omega
 generalize decide (x<0)=a at *
 generalize decide (y<0)=b at *
 rw[ex,ey]
 cases a <;> cases b <;> simp[sgn,Int.natCast_mul] <;> grind
theorem zgp (x y:Int) (hx1:-9223372036854775808≤x) (hx2:x<9223372036854775808) (hy1:-9223372036854775808≤y) (hy2:y<9223372036854775808) (hy0:y≠0) :
  ∃ (f:Rat) (r:Bool) (p q:Int),Len f 1∧f.num*y=x*f.den∧(∀ W,aq W (.agg #[.bool r,.int .u64 p,.int .u64 q,.pointer none]) f)∧∀ W,Calls prog 35 #[.int .i64 x,.int .i64 y] W fun e w'=>e=.returned (.tuple #[.agg #[.bool r,.int .u64 p,.int .u64 q,.pointer none],.nilIface])∧But [] W w':=by
 have hyp:0<y.natAbs:=by omega
 have hg:0<Nat.gcd x.natAbs y.natAbs:=Nat.gcd_pos_of_pos_right _ hyp
 have hd1:=Nat.div_mul_cancel (Nat.gcd_dvd_left x.natAbs y.natAbs)
 have hd2:=Nat.div_mul_cancel (Nat.gcd_dvd_right x.natAbs y.natAbs)
 have hq0:0<y.natAbs/Nat.gcd x.natAbs y.natAbs:=Nat.div_pos (Nat.le_of_dvd hyp (Nat.gcd_dvd_right _ _)) hg
 have hpB:x.natAbs/Nat.gcd x.natAbs y.natAbs < 18446744073709551616:=Nat.lt_of_le_of_lt (Nat.div_le_self _ _) (by omega)
 have hqB:y.natAbs/Nat.gcd x.natAbs y.natAbs < 18446744073709551616:=Nat.lt_of_le_of_lt (Nat.div_le_self _ _) (by omega)
 obtain⟨f,hn,hd⟩:=qdc (decide (x<0) != decide (y<0)) _ _ hq0 (zwx x.natAbs y.natAbs hyp)
 have habs:f.num.natAbs=x.natAbs/Nat.gcd x.natAbs y.natAbs:=by rw[hn,xk]
 refine⟨f,decide (f.num<0),(f.num.natAbs:Int),(f.den:Int)-1,?_,?_,fun W=>.inl ⟨by rw[habs];exact hpB,by rw[hd];exact hqB,rfl⟩,fun W=>?_⟩
 ·exact zhb (m:=1) (n:=1) (by rw[habs,Nat.pow_one];exact hpB) (by rw[hd,Nat.pow_one];exact hqB) 1 (Nat.le_refl _) (Nat.le_refl _)
 ·rw[hn,hd]
  exact qdg x y _ _ _ hd1.symm hd2.symm
 ·rw[habs,hd]
  exact zsc x y hx1 hx2 hy1 hy2 hy0 W _ _ _ (by show _=_;rw[hn,zgv]) rfl rfl
theorem zet (x y:Int) (hx1:-9223372036854775808≤x) (hx2:x<9223372036854775808) (hy1:-9223372036854775808≤y) (hy2:y<9223372036854775808) :
  ∃ (f:Rat) (r:Bool) (p q:Int),Len f 1∧f.num*(if y=0 then 1 else y)=x*f.den∧(∀ W,aq W (.agg #[.bool r,.int .u64 p,.int .u64 q,.pointer none]) f)∧∀ W,Calls prog 7 #[.agg #[.int .i64 x,.int .i64 y]] W fun e w'=>e=.returned (.agg #[.bool r,.int .u64 p,.int .u64 q,.pointer none])∧But [] W w':=by
 by_cases hy0:y=0
 ·subst hy0
  obtain⟨f,r,p,q,h1,h2,h3,h4⟩:=zgp x 1 hx1 hx2 (by omega) (by omega) (by omega)
  refine⟨f,r,p,q,h1,by rw[if_pos rfl];exact h2,h3,fun w=>?_⟩
  have OF:=af h4
  clear h1 h2 h3 h4
  go_enter func7,ntmps7
  go_wp2_with fail
  obtain⟨W,hW⟩:∃ W,W=(w.alloc (.cells #[.int .i64 x,.int .i64 1] 23)).alloc (.cells #[.bool false,.int .u64 0,.int .u64 0,.pointer none] 27):=⟨_,rfl⟩
  have r0:W.cell? ⟨w.heap.size+1,0,none⟩=some (.bool false):=by rw[hW];simp
  have r1:W.cell? ⟨w.heap.size+1,1,none⟩=some (.int .u64 0):=by rw[hW];simp
  have r2:W.cell? ⟨w.heap.size+1,2,none⟩=some (.int .u64 0):=by rw[hW];simp
  have r3:W.cell? ⟨w.heap.size+1,3,none⟩=some (.pointer none):=by rw[hW];simp
  have fz:∀ j,W.frozen? ⟨w.heap.size+1,j,none⟩=false:=fun j=>by rw[hW];simp
  have hB:But [] w W:=by rw[hW];exact ((But.refl _ _).alloc _).alloc _
  rw[← hW]
  clear hW
  obtain⟨gr,hgr⟩:∃ gr,gr=w.heap.size+1:=⟨_,rfl⟩
  rw[← hgr] at r0 r1 r2 r3 fz
  rw[← hgr]
  have HGR:Hid (w.heap.size≤gr):=by show _≤_;omega
  clear hgr
  have grl:gr<W.heap.size:=ai r0
  refine (ae OF _).mono ?_
  rintro e w1 ⟨rfl,hb1⟩
  have u0:=hb1.ag r0 (by simp)
  have u1:=hb1.ag r1 (by simp)
  have u2:=hb1.ag r2 (by simp)
  have u3:=hb1.ag r3 (by simp)
  have uf:∀ j,w1.frozen? ⟨gr,j,none⟩=false:=fun j=>(hb1.frozen (p:=⟨gr,j,none⟩) grl (by simp)).trans (fz j)
  have HB1:Hid (But [] w w1):=hB.trans' hb1
  have gl1:gr<w1.heap.size:=ai u0
  clear hb1 hB r0 r1 r2 r3 fz grl
  go_wp2
  have hBf:=(((((ae HB1).setCell (p:=⟨gr,0,none⟩) (.inr (ae HGR)) (.bool r)).setCell (p:=⟨gr,1,none⟩) (.inr (ae HGR)) (.int .u64 p)).setCell (p:=⟨gr,2,none⟩) (.inr (ae HGR)) (.int .u64 q)).setCell (p:=⟨gr,3,none⟩) (.inr (ae HGR)) (.pointer none)).alloc (.cells #[.bool r,.int .u64 p,.int .u64 q,.pointer none] 27)
  exact bodyPost_ret (v:=.agg #[.bool r,.int .u64 p,.int .u64 q,.pointer none]) (by simp[results,results7,go_sem,u0,u1,u2,u3,gl1]) rfl ⟨rfl,hBf⟩
 ·obtain⟨f,r,p,q,h1,h2,h3,h4⟩:=zgp x y hx1 hx2 hy1 hy2 hy0
  refine⟨f,r,p,q,h1,by rw[if_neg hy0];exact h2,h3,fun w=>?_⟩
  have n0:(y==0)=false:=by simp[hy0]
  have OF:=af h4
  clear h1 h2 h3 h4
  go_enter func7,ntmps7
  go_wp2_with fail
  obtain⟨W,hW⟩:∃ W,W=(w.alloc (.cells #[.int .i64 x,.int .i64 y] 23)).alloc (.cells #[.bool false,.int .u64 0,.int .u64 0,.pointer none] 27):=⟨_,rfl⟩
  have r0:W.cell? ⟨w.heap.size+1,0,none⟩=some (.bool false):=by rw[hW];simp
  have r1:W.cell? ⟨w.heap.size+1,1,none⟩=some (.int .u64 0):=by rw[hW];simp
  have r2:W.cell? ⟨w.heap.size+1,2,none⟩=some (.int .u64 0):=by rw[hW];simp
  have r3:W.cell? ⟨w.heap.size+1,3,none⟩=some (.pointer none):=by rw[hW];simp
  have fz:∀ j,W.frozen? ⟨w.heap.size+1,j,none⟩=false:=fun j=>by rw[hW];simp
  have hB:But [] w W:=by rw[hW];exact ((But.refl _ _).alloc _).alloc _
  rw[← hW]
  clear hW
  obtain⟨gr,hgr⟩:∃ gr,gr=w.heap.size+1:=⟨_,rfl⟩
  rw[← hgr] at r0 r1 r2 r3 fz
  rw[← hgr]
  have HGR:Hid (w.heap.size≤gr):=by show _≤_;omega
  clear hgr
  have grl:gr<W.heap.size:=ai r0
  refine (ae OF _).mono ?_
  rintro e w1 ⟨rfl,hb1⟩
  have u0:=hb1.ag r0 (by simp)
  have u1:=hb1.ag r1 (by simp)
  have u2:=hb1.ag r2 (by simp)
  have u3:=hb1.ag r3 (by simp)
  have uf:∀ j,w1.frozen? ⟨gr,j,none⟩=false:=fun j=>(hb1.frozen (p:=⟨gr,j,none⟩) grl (by simp)).trans (fz j)
  have HB1:Hid (But [] w w1):=hB.trans' hb1
  have gl1:gr<w1.heap.size:=ai u0
  clear hb1 hB r0 r1 r2 r3 fz grl
  go_wp2
  have hBf:=(((((ae HB1).setCell (p:=⟨gr,0,none⟩) (.inr (ae HGR)) (.bool r)).setCell (p:=⟨gr,1,none⟩) (.inr (ae HGR)) (.int .u64 p)).setCell (p:=⟨gr,2,none⟩) (.inr (ae HGR)) (.int .u64 q)).setCell (p:=⟨gr,3,none⟩) (.inr (ae HGR)) (.pointer none)).alloc (.cells #[.bool r,.int .u64 p,.int .u64 q,.pointer none] 27)
  exact bodyPost_ret (v:=.agg #[.bool r,.int .u64 p,.int .u64 q,.pointer none]) (by simp[results,results7,go_sem,u0,u1,u2,u3,gl1]) rfl ⟨rfl,hBf⟩
theorem bp (n:Int):((n:Int):Rat).num=n∧((n:Int):Rat).den=1:=⟨by simp,by simp⟩
theorem kr (n:Int) (h:n.natAbs < 18446744073709551616):Len ((n:Int):Rat) 1:=by
 obtain⟨h1,h2⟩:=bp n
 exact zhb (m:=1) (n:=1) (by rw[h1,Nat.pow_one];exact h) (by rw[h2];decide) 1 (Nat.le_refl _) (Nat.le_refl _)
theorem zel (x:Int) (h1:-9223372036854775808≤x) (h2:x<9223372036854775808) :
  ∃ (r:Bool) (p:Int),(∀ W,aq W (.agg #[.bool r,.int .u64 p,.int .u64 0,.pointer none]) ((x:Int):Rat))∧∀ W,Calls prog 71 #[.int .i64 x] W fun e w'=>e=.returned (.agg #[.bool r,.int .u64 p,.int .u64 0,.pointer none])∧But [] W w':=by
 obtain⟨e1,e2⟩:=bp x
 refine⟨decide (x<0),((x.natAbs:Nat):Int),fun W=>.inl ⟨by rw[e1];omega,by rw[e2];decide,by rw[e1,e2];rfl⟩,fun W=>?_⟩
 have h:=zuf x h1 h2 W
 rw[show (((1:Nat):Int)-1)=0 from rfl] at h
 exact h
set_option linter.unusedVariables false
def zn (f:Rat) (w:World) (v:Value):Prop:=∃ u,v=.tuple #[u,.nilIface]∧aq w u f
theorem zn.but {f:Rat} {w w':World} {v:Value} (h:zn f w v) (hb:But [] w w'):zn f w' v:=by
 obtain⟨u,e,hu⟩:=h
 exact⟨u,e,hu.but hb⟩
theorem zke (w:World) (g:Nat) (s:Bool) (x y:Int) (p:Option Addr) (q:Addr):(zy w g s x y p).frozen? q=w.frozen? q:=by
 unfold zy
 simp only[World.frozen?_setCell]
def qh (B:Nat) (w:World) (v:Value):Prop:=∃ b,v=.pointer (some ⟨b,0,none⟩)∧B≤b∧(∃ s x y p,P4 w b s x y p)∧∀ j,w.frozen? ⟨b,j,none⟩=false
theorem qh.but {B:Nat} {w w':World} {v:Value} (h:qh B w v) (hb:But [] w w'):qh B w' v:=by
 obtain⟨b,e,h1,⟨s,x,y,p,h2⟩,h3⟩:=h
 have hl:b<w.heap.size:=ai h2.1
 exact⟨b,e,h1,⟨s,x,y,p,h2.but hb (by simp)⟩,fun j=>(hb.frozen (p:=⟨b,j,none⟩) hl (by simp)).trans (h3 j)⟩
theorem qh.put {B:Nat} {w:World} {v:Value} {g:Nat} {s0:Bool} {x0 y0:Int} {p0:Option Addr} (h:qh B w v) (hg:P4 w g s0 x0 y0 p0) (s':Bool) (x' y':Int) (p':Option Addr):qh B (zy w g s' x' y' p') v:=by
 obtain⟨b,e,h1,⟨s,x,y,p,h2⟩,h3⟩:=h
 refine⟨b,e,h1,?_,fun j=>by rw[zke];exact h3 j⟩
 by_cases eb:b=g
 ·subst eb
  exact⟨s',x',y',p',jl w b s' x' y' p' hg⟩
 ·exact⟨s,x,y,p,h2.but (ay w g s' x' y' p') (by simpa using eb)⟩
theorem zn.put {f:Rat} {w:World} {v:Value} {g:Nat} {s0:Bool} {x0 y0:Int} {p0:Option Addr} (h:zn f w v) (hg:P4 w g s0 x0 y0 p0) (s':Bool) (x' y':Int) (p':Option Addr):zn f (zy w g s' x' y' p') v:=by
 obtain⟨u,e,hu⟩:=h
 exact⟨u,e,hu.over hg.1 (ay w g s' x' y' p')⟩
def zfe (B:Nat) (f:Rat) (w:World) (v:Value):Prop:=∃ b s x y p,v=.pointer (some ⟨b,0,none⟩)∧B≤b∧P4 w b s x y p∧aq w (.agg #[.bool s,.int .u64 x,.int .u64 y,.pointer p]) f
theorem zfe.but {B:Nat} {f:Rat} {w w':World} {v:Value} (h:zfe B f w v) (hb:But [] w w'):zfe B f w' v:=by
 obtain⟨b,s,x,y,p,e,h1,h2,h3⟩:=h
 exact⟨b,s,x,y,p,e,h1,h2.but hb (by simp),h3.but hb⟩
theorem zqm (a:Act) (w:World) (d t:Nat) (u:TypeId) (ps:String) (ed:Array Edge) (gd:Option (Nat × Bool)) (N:Value) (h:a.eval (.tmp t)=N) :
  (execOp a.eval { dst:=some d,op:=Op.assign (.tmp t),type:=u,pos:=ps,after:=ed,guard:=gd }).run prog w=.ok (.value N) w:=by
 unfold execOp
 simp only[h]
 go_simp
theorem uh (a:Act) (w:World) (d:Nat) (u:TypeId) (ps:String) (ed:Array Edge) (gd:Option (Nat × Bool)) :
  (execOp a.eval { dst:=some d,op:=Op.alloc 27,type:=u,pos:=ps,after:=ed,guard:=gd }).run prog w=.ok (.value (.pointer (some ⟨w.heap.size,0,none⟩))) (w.alloc (.cells #[.bool false,.int .u64 0,.int .u64 0,.pointer none] 27)):=by
 unfold execOp
 go_simp
theorem bz (a:Act) (w:World) (d t:Nat) (u:TypeId) (ps:String) (ed:Array Edge) (gd:Option (Nat × Bool)) (N:Value) (h:a.eval (.tmp t)=N) :
  (execOp a.eval { dst:=some d,op:=Op.move (.tmp t),type:=u,pos:=ps,after:=ed,guard:=gd }).run prog w=.ok (.value N) w:=by
 unfold execOp
 simp only[h]
 go_simp
theorem zbq (a:Act) (w:World) (d t1 k:Nat) (u:TypeId) (ps:String) (ed:Array Edge) (gd:Option (Nat × Bool)) (xs:Array Value) (v:Value) (h1:a.eval (.tmp t1)=.tuple xs) (h2:xs[k]? = some v) :
  (execOp a.eval { dst:=some d,op:=Op.extract (.tmp t1) k,type:=u,pos:=ps,after:=ed,guard:=gd }).run prog w=.ok (.value v) w:=by
 unfold execOp
 simp only[h1]
 go_simp
theorem zbr (a:Act) (w:World) (d t:Nat) (u:TypeId) (ps:String) (ed:Array Edge) (gd:Option (Nat × Bool)) (N:Value) (h:a.eval (.tmp t)=N) :
  (execOp a.eval { dst:=some d,op:=Op.assign (.tmp t),type:=u,pos:=ps,after:=ed,guard:=gd }).run prog w=.ok (.value N) w:=by
 unfold execOp
 simp only[h]
 go_simp
abbrev FZ:=Bool × Int × Int × Option Addr
theorem ax (a:Act) (w:World) (d t:Nat) (u:TypeId) (ps:String) (ed:Array Edge) (gd:Option (Nat × Bool)) (b o:Nat) (s:Bool) (x y:Int) (p:Option Addr) (h1:a.eval (.tmp t)=.pointer (some ⟨b,o,none⟩)) (hc:P4o w b o s x y p) :
  (execOp a.eval { dst:=some d,op:=Op.load 27 (.tmp t),type:=u,pos:=ps,after:=ed,guard:=gd }).run prog w=.ok (.value (.agg #[.bool s,.int .u64 x,.int .u64 y,.pointer p])) w:=by
 obtain⟨c0,c1,c2,c3⟩:=hc
 unfold execOp
 simp only[h1]
 go_simp
theorem zie (a:Act) (w:World) (d t1 t2:Nat) (u:TypeId) (ps:String) (ed:Array Edge) (gd:Option (Nat × Bool)) (x1 x2:Value) (h1:a.eval (.tmp t1)=x1) (h2:a.eval (.tmp t2)=x2) :
  (execOp a.eval { dst:=some d,op:=Op.call { callee:=Callee.value (Operand.func 119),args:=#[Operand.tmp t1,Operand.tmp t2],argTypes:=#[27,27] },type:=u,pos:=ps,after:=ed,guard:=gd }).run prog w=.ok (.enter 119 #[x1,x2]) w:=by
 unfold execOp
 go_simp
 rw[← h1,← h2]
 simp[Act.eval]
structure xg (w:World) (g:Nat) (vs:List Value):Prop where
 cells:∀ k v,vs[k]? = some v→w.cell? ⟨g,k,none⟩=some v
 loose:∀ j,w.frozen? ⟨g,j,none⟩=false
theorem xg.new (w:World) (vs:List Value) (t:TypeId):xg (w.alloc (.cells vs.toArray t)) w.heap.size vs :=
 ⟨fun k v h=>by rw[World.cell?_alloc_new];simpa using h,fun j=>by simp⟩
theorem xg.but {w w':World} {g:Nat} {vs:List Value} {l:List Nat} (h:xg w g vs) (hb:But l w w') (hn:g ∉ l) (h0:0<vs.length):xg w' g vs:=by
 have hl:g<w.heap.size:=by
  have:=h.cells 0 vs[0] (List.getElem?_eq_getElem h0)
  exact ai this
 exact⟨fun k v hv=>hb.ag (h.cells k v hv) hn,fun j=>(hb.frozen (p:=⟨g,j,none⟩) hl hn).trans (h.loose j)⟩
theorem xg.lt {w:World} {g:Nat} {vs:List Value} (h:xg w g vs) (h0:0<vs.length):g<w.heap.size:=ai (h.cells 0 vs[0] (List.getElem?_eq_getElem h0))
theorem xg.some {w:World} {g:Nat} {vs:List Value} (h:xg w g vs) (k:Nat) (hk:k<vs.length):∃ v,w.cell? ⟨g,k,none⟩=some v:=⟨_,h.cells k vs[k] (List.getElem?_eq_getElem hk)⟩
theorem xg.put {w:World} {g:Nat} {vs us:List Value} (h:xg w g vs) (hl:us.length=vs.length):xg (w.setCells g 0 us) g us:=by
 refine⟨fun k v hv=>?_,fun j=>by rw[World.frozen?_setCells];exact h.loose j⟩
 have hk:k<us.length:=(List.getElem?_eq_some_iff.1 hv).1
 have e:=World.cell?_setCells_in g us 0 w (fun j hj=>by
  obtain⟨v,hc⟩:=h.some j (by omega)
  rw[Nat.zero_add,hc];rfl) k hk
 rw[Nat.zero_add] at e
 rw[e,← (List.getElem?_eq_some_iff.1 hv).2]
def zmf (q:Int):Value:=if q=0 then .nilIface else .iface 33 (.int .i64 q)
theorem zsj (x y:Rat) (r:Int) (hr:r=zhh (x.num*(y.den:Int)) (y.num*(x.den:Int))):(r<0↔x<y)∧(0<r↔y<x)∧(r=0↔x=y):=by
 have h1:x<y↔x.num*(y.den:Int)<y.num*(x.den:Int):=Rat.lt_iff x y
 have h2:y<x↔y.num*(x.den:Int)<x.num*(y.den:Int):=Rat.lt_iff y x
 have h3:x=y↔x.num*(y.den:Int)=y.num*(x.den:Int):=by
  constructor
  ·intro h;rw[h]
  ·intro h
   exact Rat.le_antisymm ((Rat.le_iff _ _).2 (by omega)) ((Rat.le_iff _ _).2 (by omega))
 rw[h1,h2,h3,hr]
 unfold zhh
 split
 ·omega
 ·split <;> omega
end Go.Proofs.YtffghofheeleeaaGreatDoor
