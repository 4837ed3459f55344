/- Plain facts for the walks: a frame that  -/
import Derived.WalkKit
import Derived.Deep.Draws
import Derived.Laws.MakeOwn
import Derived.Laws.Append
namespace Go.Proofs.YtagmkkiagjmimaaGreatDoor
set_option linter.unusedVariables false
open Go.RowKit
theorem af {p:Prop} (h:p):Hid p:=h
theorem ae {p:Prop} (h:Hid p):p:=h
/-! ### the frame -/
structure But (l:List Nat) (w w':World):Prop where
 os:w'.os=w.os
 tape:w'.tape=w.tape
 output:w'.output=w.output
 size:w.heap.size≤w'.heap.size
 block:∀ k,k<w.heap.size→k ∉ l→w'.heap[k]? = w.heap[k]?
theorem But.refl (l:List Nat) (w:World):But l w w:=⟨rfl,rfl,rfl,Nat.le_refl _,fun _ _ _=>rfl⟩
theorem But.trans {l l':List Nat} {a b c:World} (h:But l a b) (k:But l' b c) (hl:∀ x ∈ l',x ∈ l∨a.heap.size≤x):But l a c :=
 ⟨k.os.trans h.os,k.tape.trans h.tape,k.output.trans h.output,Nat.le_trans h.size k.size,fun i hi hn=>by
  rw[k.block i (Nat.lt_of_lt_of_le hi h.size) (fun hm=>by rcases hl i hm with h1 | h1;exact hn h1;omega)]
  exact h.block i hi hn⟩
theorem But.trans' {l:List Nat} {a b c:World} (h:But l a b) (k:But [] b c):But l a c:=h.trans k (fun x hx=>by simp at hx)
theorem But.drew {l:List Nat} {a w:World} (h:But l a w):But l a w.drew:=⟨h.os,h.tape,h.output,h.size,h.block⟩
theorem But.drewN {l:List Nat} {a w:World} (h:But l a w) (n:Nat):But l a (w.drewN n):=⟨h.os,h.tape,h.output,h.size,h.block⟩
theorem But.alloc {l:List Nat} {a w:World} (h:But l a w) (o:Obj):But l a (w.alloc o) :=
 h.trans' ⟨rfl,rfl,rfl,by simp,fun k hk _=>Below.heap_alloc _ _ _ (by omega)⟩
theorem But.setCell {l:List Nat} {a w:World} (h:But l a w) {p:Addr} (hp:p.block ∈ l∨a.heap.size≤p.block) (u:Value):But l a (w.setCell p u) :=
 h.trans (l':=[p.block]) ⟨rfl,rfl,rfl,by simp[World.setCell],fun k _ hk2=>Below.heap_setCell _ _ _ _ (by simpa using hk2)⟩ (fun x hx=>by simp at hx;subst hx;exact hp)
theorem But.mono {l l':List Nat} {a w:World} (h:But l a w) (hl:∀ x ∈ l,x ∈ l'∨a.heap.size≤x):But l' a w :=
 ⟨h.os,h.tape,h.output,h.size,fun k hk hn=>h.block k hk (fun hm=>by rcases hl k hm with h1 | h1;exact hn h1;omega)⟩
theorem But.of_nil {l:List Nat} {a w:World} (h:But [] a w):But l a w:=h.mono (by simp)
theorem But.cell {l:List Nat} {w w':World} (h:But l w w') {p:Addr} (hp:p.block<w.heap.size) (hn:p.block ∉ l):w'.cell? p=w.cell? p:=World.cell?_of_block (w:=w) (h.block p.block hp hn)
theorem But.frozen {l:List Nat} {w w':World} (h:But l w w') {p:Addr} (hp:p.block<w.heap.size) (hn:p.block ∉ l):w'.frozen? p=w.frozen? p:=World.frozen?_of_block (w:=w) (h.block p.block hp hn)
theorem But.below {w w':World} (h:But [] w w'):Below w.heap.size w w':=⟨h.os,h.tape,h.output,h.size,fun k hk=>h.block k hk (by simp)⟩
theorem But.of_below {w w':World} (h:Below w.heap.size w w'):But [] w w':=⟨h.os,h.tape,h.output,h.size,fun k hk _=>h.block k hk⟩
theorem ai {w:World} {a:Addr} {v:Value} (h:w.cell? a=some v):a.block<w.heap.size:=by(
 rcases Nat.lt_or_ge a.block w.heap.size with h1 | h1
 ·exact h1
 ·simp[World.cell?,Array.getElem?_eq_none h1] at h)
theorem But.ag {l:List Nat} {w w':World} (h:But l w w') {p:Addr} {v:Value} (hc:w.cell? p=some v) (hn:p.block ∉ l):w'.cell? p=some v:=(h.cell (ai hc) hn).trans hc
theorem dr1 (w:World) (q a:Nat):∃ n,(w.drewN q).drewN a=w.drewN n:=⟨q+a,World.drewN_drewN _ _ _⟩
theorem dr2 (w:World) (q a b:Nat):∃ n,((w.drewN q).drewN a).drewN b=w.drewN n:=⟨q+(a+b),by rw[World.drewN_drewN,World.drewN_drewN]⟩
/-! ### numbers in words -/
def vl (B:Nat):List Nat→Nat
 | []=>0
 | x::xs=>x+B*vl B xs
theorem qg (B:Nat):∀ xs ys,vl B (xs++ys)=vl B xs+B^xs.length*vl B ys
 | [],ys=>by simp[vl]
 | x::xs,ys=>by
  simp only[List.cons_append,vl,qg B xs ys,List.length_cons,Nat.pow_succ,Nat.mul_add]
  rw[Nat.mul_comm (B^xs.length) B,Nat.mul_assoc,Nat.add_assoc]
theorem mg {B:Nat} (hB:0<B):∀ xs:List Nat,(∀ x ∈ xs,x<B)→vl B xs<B^xs.length
 | [],_=>by simp[vl]
 | x::xs,h=>by
  have h1:=mg hB xs (fun y hy=>h y (by simp[hy]))
  have h2:=h x (by simp)
  simp only[vl,List.length_cons,Nat.pow_succ]
  have h3:B*(vl B xs+1)≤B*B^xs.length:=Nat.mul_le_mul_left _ h1
  rw[Nat.mul_add] at h3
  rw[Nat.mul_comm (B^xs.length) B]
  omega
def wd (B:Nat) (n:Nat):List Nat:=if _h:1<B∧0<n then n%B::wd B (n/B) else []
 termination_by n
 decreasing_by exact Nat.div_lt_self _h.2 _h.1
theorem zq (B:Nat):wd B 0=[]:=by rw[wd];simp
theorem zbg {B n:Nat} (hB:1<B) (hn:0<n):wd B n=n%B::wd B (n/B):=by rw[wd,dif_pos ⟨hB,hn⟩]
theorem ja {B:Nat} (hB:1<B) (n:Nat):vl B (wd B n)=n:=by(
 induction n using Nat.strongRecOn with
 | _ n ih =>
  by_cases hn:0<n
  ·rw[zbg hB hn,vl,ih (n/B) (Nat.div_lt_self hn hB)]
   exact Nat.mod_add_div n B
  ·have:n=0:=by omega
   subst this;rw[zq];rfl)
theorem zt {B:Nat} (hB:1<B) (n:Nat):∀ x ∈ wd B n,x<B:=by(
 induction n using Nat.strongRecOn with
 | _ n ih =>
  by_cases hn:0<n
  ·rw[zbg hB hn]
   intro x hx
   simp only[List.mem_cons] at hx
   rcases hx with rfl | hx
   ·exact Nat.mod_lt _ (by omega)
   ·exact ih (n/B) (Nat.div_lt_self hn hB) x hx
  ·have:n=0:=by omega
   subst this;rw[zq];simp)
theorem wh {B:Nat} (hB:1<B) (n:Nat):wd B n=[]↔n=0:=by(
 constructor
 ·intro h
  rcases Nat.eq_zero_or_pos n with h0 | h0
  ·exact h0
  ·rw[zbg hB h0] at h;simp at h
 ·rintro rfl;exact zq B)
theorem zo {B:Nat} (hB:1<B) (n:Nat):(wd B n).length=0↔n=0:=by rw[List.length_eq_zero_iff,wh hB]
theorem zwe {B:Nat} (hB:1<B) (x m:Nat) (hx:x<B) (h:0<x+B*m):wd B (x+B*m)=x::wd B m:=by
 rw[zbg hB h,Nat.add_mul_mod_self_left,Nat.mod_eq_of_lt hx,Nat.add_mul_div_left _ _ (by omega),Nat.div_eq_of_lt hx,Nat.zero_add]
theorem zkj {B:Nat} (hB:1<B):∀ (xs:List Nat) (y:Nat),(∀ x ∈ xs,x<B)→y<B→0<y→wd B (vl B (xs++[y]))=xs++[y]
 | [],y,_,hy,h0=>by
  have h:=zwe hB y 0 hy (by omega)
  simp only[Nat.mul_zero,Nat.add_zero,zq] at h
  simpa [vl] using h
 | x::xs,y,hx,hy,h0=>by
  have ih:=zkj hB xs y (fun z hz=>hx z (by simp[hz])) hy h0
  have hp:0<vl B (xs++[y]):=by
   rw[Nat.pos_iff_ne_zero];intro h;rw[h,zq] at ih;simp at ih
  have hm:0<B*vl B (xs++[y]):=Nat.mul_pos (by omega) hp
  show wd B (x+B*vl B (xs++[y]))=x::(xs++[y])
  rw[zwe hB x _ (hx x (by simp)) (by omega),ih]
theorem pg (B:Nat) (xs:List Nat):vl B (xs++[0])=vl B xs:=by rw[qg];simp[vl]
theorem aj {B:Nat} (hB:1<B) (n k:Nat) (h:n<B^k):(wd B n).length≤k:=by(
 induction k generalizing n with
 | zero =>
  have:n=0:=by simp at h;omega
  subst this;simp[zq]
 | succ k ih =>
  by_cases hn:0<n
  ·rw[zbg hB hn,List.length_cons]
   have:=ih (n/B) (by rw[Nat.div_lt_iff_lt_mul (by omega)];rw[Nat.pow_succ] at h;exact h)
   omega
  ·have:n=0:=by omega
   subst this;simp[zq])
theorem am {B:Nat} (hB:1<B) (n k:Nat) (h:(wd B n).length≤k):n<B^k:=by(
 have h1:=mg (by omega:0<B) (wd B n) (zt hB n)
 rw[ja hB] at h1
 exact Nat.lt_of_lt_of_le h1 (Nat.pow_le_pow_right (by omega) h))
/-! ### rows of words in memory -/
def Ints (k:IntKind) (w:World) (b:Nat):Prop:=∀ i v,w.cell? ⟨b,i,none⟩=some v→∃ n:Int,v=.int k n
theorem Ints.but {k:IntKind} {w w':World} {b:Nat} {l:List Nat} (h:Ints k w b) (hb:But l w w') (hl:b<w.heap.size) (hn:b ∉ l):Ints k w' b:=fun i v hv=>h i v (by rw[← hb.cell (p:=⟨b,i,none⟩) hl hn];exact hv)
theorem zou (w:World) (a:Addr) (v:Value) (h:w.cell? a=none):(w.setCell a v).cell? a=none:=by(
 unfold World.cell? at h ⊢
 simp only[World.setCell,Array.getElem?_modify,↓reduceIte]
 cases hb:w.heap[a.block]? with
 | none=>simp
 | some x =>
  rw[hb] at h
  cases x <;> simp at h ⊢
  rename_i c e f
  cases hs:a.spot with
  | some _=>simp
  | none=>simpa [hs] using h)
theorem Ints.set {k:IntKind} {w:World} {b:Nat} (h:Ints k w b) (o:Nat) (t:Int):Ints k (w.setCell ⟨b,o,none⟩ (.int k t)) b:=fun i v hv=>by
 by_cases e:o=i
 ·subst e
  cases hc:w.cell? ⟨b,o,none⟩ with
  | none=>rw[zou _ _ _ hc] at hv;simp at hv
  | some u=>rw[World.cell?_setCell_same _ _ _ hc] at hv;exact⟨t,(Option.some.inj hv).symm⟩
 ·rw[World.cell?_setCell_other _ _ _ _ (fun h=>e (Addr.mk.inj h).2.1)] at hv
  exact h i v hv
theorem Ints.ne {k:IntKind} {w:World} {b g i:Nat} {v:Value} (h:Ints k w b) (hv:w.cell? ⟨g,i,none⟩=some v) (hn:∀ n:Int,v≠.int k n):b≠g:=fun e=>by
 subst e
 obtain⟨n,e⟩:=h i v hv
 exact hn n e
def Sl (k:IntKind) (w:World) (v:Value) (xs:List Nat):Prop :=
 ∃ a cap,v=.slice a xs.length cap∧xs.length≤cap∧(∀ i,i<xs.length→∃ b off,a=some ⟨b,off,none⟩∧w.cell? ⟨b,off+i,none⟩=some (.int k (xs[i]?.getD 0:Nat)))∧(∀ b off,a=some ⟨b,off,none⟩→0<xs.length→Ints k w b)
theorem Sl.but {k:IntKind} {w w':World} {v:Value} {xs:List Nat} {l:List Nat} (h:Sl k w v xs) (hb:But l w w') (hl:∀ b off cap n,v=.slice (some ⟨b,off,none⟩) n cap→b ∉ l):Sl k w' v xs:=by(
 obtain⟨a,cap,rfl,hc,h,hi⟩:=h
 refine⟨a,cap,rfl,hc,fun i hi=>?_,fun b off e h0=>?_⟩
 ·obtain⟨b,off,rfl,h2⟩:=h i hi
  exact⟨b,off,rfl,hb.ag h2 (hl b off cap _ rfl)⟩
 ·(
 subst e
 obtain⟨b2,off2,e2,h2⟩:=h 0 h0
 simp only[Option.some.injEq,Addr.mk.injEq] at e2
 obtain⟨rfl,rfl,-⟩:=e2
 exact (hi _ _ rfl h0).but hb (ai h2) (hl _ _ cap _ rfl)))
theorem Sl.ah {k:IntKind} {w w':World} {v:Value} {xs:List Nat} (h:Sl k w v xs) (hb:But [] w w'):Sl k w' v xs:=h.but hb (by simp)
theorem Sl.nil (k:IntKind) (w:World):Sl k w (.slice none 0 0) []:=⟨none,0,rfl,Nat.le_refl _,fun i hi=>by simp at hi,fun b off e=>by simp at e⟩
theorem Sl.open {k:IntKind} {w:World} {v:Value} {xs:List Nat} (h:Sl k w v xs) :
   (xs=[]∧∃ a cap,v=.slice a 0 cap)∨(0<xs.length∧∃ b off cap,v=.slice (some ⟨b,off,none⟩) xs.length cap∧xs.length≤cap∧b<w.heap.size∧∀ i,i<xs.length→w.cell? ⟨b,off+i,none⟩=some (.int k (xs[i]?.getD 0:Nat))):=by(
 obtain⟨a,cap,rfl,hc,h,-⟩:=h
 rcases Nat.eq_zero_or_pos xs.length with h0 | h0
 ·exact .inl ⟨List.length_eq_zero_iff.1 h0,a,cap,by rw[h0]⟩
 ·(
 obtain⟨b,off,rfl,h1⟩:=h 0 h0
 refine .inr ⟨h0,b,off,cap,rfl,hc,ai h1,fun i hi=>?_⟩
 obtain⟨b',off',e,h2⟩:=h i hi
 simp only[Option.some.injEq,Addr.mk.injEq] at e
 obtain⟨rfl,rfl,_⟩:=e
 exact h2))
theorem Sl.mk {k:IntKind} {w:World} {xs:List Nat} (b off cap:Nat) (hc:xs.length≤cap) (h:∀ i,i<xs.length→w.cell? ⟨b,off+i,none⟩=some (.int k (xs[i]?.getD 0:Nat))) (hi:0<xs.length→Ints k w b):Sl k w (.slice (some ⟨b,off,none⟩) xs.length cap) xs :=
 ⟨_,cap,rfl,hc,fun i hi=>⟨b,off,rfl,h i hi⟩,fun b' off' e h0=>by
  simp only[Option.some.injEq,Addr.mk.injEq] at e
  obtain⟨rfl,-⟩:=e
  exact hi h0⟩
theorem Sl.ints {k:IntKind} {w:World} {xs:List Nat} {b off n c:Nat} (h:Sl k w (.slice (some ⟨b,off,none⟩) n c) xs) (h0:0<n):Ints k w b:=by(
 obtain⟨a,cap,e,-,-,hi⟩:=h
 simp only[Value.slice.injEq] at e
 obtain⟨rfl,rfl,-⟩:=e
 exact hi _ _ rfl h0)
theorem Sl.over {k:IntKind} {w w':World} {v u:Value} {xs:List Nat} {g i:Nat} (h:Sl k w v xs) (hb:But [g] w w') (hv:w.cell? ⟨g,i,none⟩=some u) (hn:∀ n:Int,u≠.int k n):Sl k w' v xs:=by(
 obtain⟨a,cap,rfl,hc,h,hi⟩:=h
 rcases Nat.eq_zero_or_pos xs.length with h0 | h0
 ·exact⟨a,cap,rfl,hc,fun i hi=>by omega,fun b off e h1=>by omega⟩
 ·(
 refine Sl.but (xs:=xs) ⟨a,cap,rfl,hc,h,hi⟩ hb (fun b off cap' n e=>?_)
 simp only[Value.slice.injEq] at e
 obtain⟨rfl,-,-⟩:=e
 simp only[List.mem_singleton]
 exact (hi _ _ rfl h0).ne hv hn))
theorem so {α:Type} {x y:α} {o:Option α} (h:o=some x) (k:o=some y):x=y:=Option.some.inj (h.symm.trans k)
theorem p9 (xs:List Nat) (n:Nat) (h:n<xs.length):xs.take (n+1)=xs.take n++[xs[n]?.getD 0]:=by
 rw[List.take_succ_eq_append_getElem h];simp[List.getElem?_eq_getElem h]
theorem zgq {B:Nat} (hB:1<B) (xs:List Nat) (n:Nat) (hn:n≤xs.length) (hq:vl B (xs.take n)=vl B xs) (hm:∀ x ∈ xs,x<B) (hlast:n=0∨xs[n-1]?.getD 0≠0):wd B (vl B xs)=xs.take n:=by(
 rw[← hq]
 rcases hlast with rfl | hlast
 ·simp[vl,zq]
 ·(
 obtain⟨k,rfl⟩:∃ k,n=k+1:=⟨n-1,by
  have:n≠0:=by
   rintro rfl
   rcases xs with _|⟨x,xs⟩
   ·simp at hlast
   ·simp only[List.take_zero,vl] at hq
    simp only[Nat.zero_sub,List.getElem?_cons_zero,Option.getD_some] at hlast
    omega
  omega⟩
 rw[p9 xs k (by omega)]
 simp only[Nat.add_sub_cancel] at hlast
 have hk:k<xs.length:=by omega
 refine zkj hB _ _ (fun x hx=>hm x (List.mem_of_mem_take hx)) ?_ (Nat.pos_of_ne_zero hlast)
 have:=hm xs[k] (List.getElem_mem hk)
 simpa [List.getElem?_eq_getElem hk] using this))
theorem zia (xs:List Nat) (n i:Nat) (h:i<n):(xs.take n)[i]?.getD 0=xs[i]?.getD 0:=by rw[List.getElem?_take_of_lt h]
def zbv (v v':Value):Prop:=∀ b off n c,v'=.slice (some ⟨b,off,none⟩) n c→∃ n' c',v=.slice (some ⟨b,off,none⟩) n' c'
theorem zgu (a:Option Addr) (n c n' c':Nat):zbv (.slice a n c) (.slice a n' c'):=fun _ _ _ _ e=>⟨n,c,congrArg (fun a=>Value.slice a n c) (Value.slice.inj e).1⟩
def zz (m n:Nat):Int:=if m<n then -1 else if m=n then 0 else 1
theorem zpl {B:Nat} (hB:1<B) (m n:Nat) (h:(wd B m).length<(wd B n).length):m<n:=by(
 rcases Nat.lt_or_ge m n with h1 | h1
 ·exact h1
 ·have h2:=am hB m _ (Nat.le_refl _)
  have h3:=aj hB n _ (Nat.lt_of_le_of_lt h1 h2)
  omega)
theorem zac (B:Nat) (xs:List Nat) (i:Nat) (h:i<xs.length):vl B xs=vl B (xs.take i)+B^i*(xs[i]?.getD 0+B*vl B (xs.drop (i+1))):=by(
 have e:xs=xs.take i++(xs[i]?.getD 0::xs.drop (i+1)):=by
  rw[List.getElem?_eq_getElem h,Option.getD_some,← List.drop_eq_getElem_cons h,List.take_append_drop]
 have h2:=congrArg (vl B) e
 rw[qg,List.length_take,Nat.min_eq_left (by omega)] at h2
 exact h2)
theorem zok {B:Nat} (hB:1<B) (xs ys:List Nat) (i:Nat) (hx:i<xs.length) (hy:i<ys.length) (mx:∀ x ∈ xs,x<B) (hd:xs.drop (i+1)=ys.drop (i+1)) (hlt:xs[i]?.getD 0<ys[i]?.getD 0):vl B xs<vl B ys:=by(
 rw[zac B xs i hx,zac B ys i hy,hd]
 have h1:=mg (by omega:0<B) (xs.take i) (fun x hx=>mx x (List.mem_of_mem_take hx))
 rw[List.length_take,Nat.min_eq_left (by omega)] at h1
 have h2:B^i*(xs[i]?.getD 0+B*vl B (ys.drop (i+1))+1)≤B^i*(ys[i]?.getD 0+B*vl B (ys.drop (i+1))):=Nat.mul_le_mul_left _ (by omega)
 rw[Nat.mul_add,Nat.mul_one] at h2
 omega)
theorem znw (xs ys:List Nat) (i:Nat) (hx:i<xs.length) (hy:i<ys.length) (hd:xs.drop (i+1)=ys.drop (i+1)) (he:xs[i]?.getD 0=ys[i]?.getD 0):xs.drop i=ys.drop i:=by(
 rw[List.drop_eq_getElem_cons hx,List.drop_eq_getElem_cons hy,hd]
 rw[List.getElem?_eq_getElem hx,List.getElem?_eq_getElem hy] at he
 simp only[Option.getD_some] at he
 rw[he])
def Row (k:IntKind) (w:World) (g:Nat) (rs:List Nat):Prop:=∀ i,i<rs.length→w.cell? ⟨g,i,none⟩=some (.int k (rs[i]?.getD 0:Nat))∧w.frozen? ⟨g,i,none⟩=false
theorem Row.set {k:IntKind} {w:World} {g:Nat} {rs:List Nat} (h:Row k w g rs) (i:Nat) (hi:i<rs.length) (t:Nat):Row k (w.setCell ⟨g,i,none⟩ (.int k t)) g (rs.set i t):=by(
 intro j hj
 rw[List.length_set] at hj
 refine⟨?_,by rw[World.frozen?_setCell];exact (h j hj).2⟩
 by_cases e:i=j
 ·subst e
  rw[World.cell?_setCell_same _ _ _ (h i hi).1,List.getElem?_set_self hi];rfl
 ·rw[World.cell?_setCell_other _ _ _ _ (fun h=>e (Addr.mk.inj h).2.1),List.getElem?_set_ne e];exact (h j hj).1)
theorem Row.made (k:IntKind) (w:World) (n:Nat) (t:TypeId):Row k (w.alloc (.cells (madeCells #[.int k 0] n) t)) w.heap.size (List.replicate n 0):=by(
 intro i hi
 rw[List.length_replicate] at hi
 refine⟨?_,by simp⟩
 rw[World.cell?_alloc_new]
 simp[madeCells,hi,Nat.mod_one])
theorem fw (B:Nat):∀ (rs:List Nat) (k t:Nat),k<rs.length→vl B (rs.set k t)+rs[k]?.getD 0*B^k=vl B rs+t*B^k
 | [],k,t,h=>by simp at h
 | x::rs,0,t,_=>by simp[vl];omega
 | x::rs,k+1,t,h=>by
  have ih:=fw B rs k t (by simpa using h)
  simp only[List.set_cons_succ,vl,List.getElem?_cons_succ,Nat.pow_succ]
  have e1:rs[k]?.getD 0*(B^k*B)=B*(rs[k]?.getD 0*B^k):=by rw[← Nat.mul_assoc,Nat.mul_comm _ B]
  have e2:t*(B^k*B)=B*(t*B^k):=by rw[← Nat.mul_assoc,Nat.mul_comm _ B]
  rw[e1,e2,Nat.add_assoc,← Nat.mul_add,ih,Nat.mul_add,Nat.add_assoc]
theorem jc (B:Nat) (xs:List Nat) (i:Nat) (h:i<xs.length):vl B (xs.take (i+1))=vl B (xs.take i)+xs[i]?.getD 0*B^i:=by(
 rw[List.take_succ_eq_append_getElem h,qg,List.length_take,Nat.min_eq_left (by omega),List.getElem?_eq_getElem h]
 simp only[vl,Nat.mul_zero,Nat.add_zero,Option.getD_some]
 rw[Nat.mul_comm])
theorem jd (B n:Nat):vl B (List.replicate n 0)=0:=by(
 induction n with
 | zero=>rfl
 | succ n ih=>simp[List.replicate_succ,vl,ih])
theorem cf {xs:List Nat} {B:Nat} (h:∀ x ∈ xs,x<B) (hB:0<B) (i:Nat):xs[i]?.getD 0<B:=by(
 rcases Nat.lt_or_ge i xs.length with h1 | h1
 ·rw[List.getElem?_eq_getElem h1];exact h _ (List.getElem_mem h1)
 ·rw[List.getElem?_eq_none h1];exact hB)
theorem mem_set {rs:List Nat} {B:Nat} (h:∀ x ∈ rs,x<B) (i t:Nat) (ht:t<B):∀ x ∈ rs.set i t,x<B:=by(
 intro x hx
 rcases List.mem_or_eq_of_mem_set hx with h1 | h1
 ·exact h x h1
 ·subst h1;exact ht)
theorem kg (B:Nat) (xs:List Nat) (i:Nat) (h:i<xs.length):vl B (xs.drop i)=xs[i]?.getD 0+B*vl B (xs.drop (i+1)):=by
 rw[List.drop_eq_getElem_cons h,vl,List.getElem?_eq_getElem h];rfl
def o8 (B:Nat) (v:Value):Prop:=∀ b off n c,v=.slice (some ⟨b,off,none⟩) n c→B≤b
theorem dw {v:Value} {B g n c:Nat} (h:zbv (.slice (some ⟨g,0,none⟩) n c) v) (hg:B≤g):o8 B v:=fun b off n' c' e=>by
 obtain⟨n1,c1,e1⟩:=h b off n' c' e
 have:=Option.some.inj (Value.slice.inj e1).1
 simp only[Addr.mk.injEq] at this
 omega
/-! ### a part of a row that is written into -/
def Seg (w:World) (g o:Nat) (rs:List Nat):Prop:=(∀ i,i<rs.length→w.cell? ⟨g,o+i,none⟩=some (.int .u64 (rs[i]?.getD 0:Nat))∧w.frozen? ⟨g,o+i,none⟩=false)∧(0<rs.length→Ints .u64 w g)
theorem Seg.cells {w:World} {g o:Nat} {rs:List Nat} (h:Seg w g o rs):∀ i,i<rs.length→w.cell? ⟨g,o+i,none⟩=some (.int .u64 (rs[i]?.getD 0:Nat))∧w.frozen? ⟨g,o+i,none⟩=false:=h.1
theorem Seg.ints {w:World} {g o:Nat} {rs:List Nat} (h:Seg w g o rs):0<rs.length→Ints .u64 w g:=h.2
instance {w:World} {g o:Nat} {rs:List Nat}:CoeFun (Seg w g o rs) (fun _=>∀ i,i<rs.length→w.cell? ⟨g,o+i,none⟩=some (.int .u64 (rs[i]?.getD 0:Nat))∧w.frozen? ⟨g,o+i,none⟩=false):=⟨Seg.cells⟩
theorem Seg.set {w:World} {g o:Nat} {rs:List Nat} (h:Seg w g o rs) (i:Nat) (hi:i<rs.length) (t:Nat):Seg (w.setCell ⟨g,o+i,none⟩ (.int .u64 t)) g o (rs.set i t):=by(
 refine⟨fun j hj=>?_,fun h0=>(h.ints (by rw[List.length_set] at h0;exact h0)).set _ _⟩
 rw[List.length_set] at hj
 refine⟨?_,by rw[World.frozen?_setCell];exact (h j hj).2⟩
 by_cases e:i=j
 ·subst e
  rw[World.cell?_setCell_same _ _ _ (h i hi).1,List.getElem?_set_self hi];rfl
 ·rw[World.cell?_setCell_other _ _ _ _ (fun h=>e (by have:=(Addr.mk.inj h).2.1;omega)),List.getElem?_set_ne e];exact (h j hj).1)
theorem Seg.sl {w:World} {g o:Nat} {rs:List Nat} (h:Seg w g o rs) (cap:Nat) (hc:rs.length≤cap):Sl .u64 w (.slice (some ⟨g,o,none⟩) rs.length cap) rs :=
 Sl.mk g o cap hc (fun i hi=>(h i hi).1) h.ints
theorem Seg.lt {w:World} {g o:Nat} {rs:List Nat} (h:Seg w g o rs) (h0:0<rs.length):g<w.heap.size:=ai (h 0 h0).1
theorem Seg.but {w w':World} {g o:Nat} {rs:List Nat} {l:List Nat} (h:Seg w g o rs) (hb:But l w w') (hn:g ∉ l):Seg w' g o rs:=⟨fun i hi=>by
 have hl:=ai (h i hi).1
 exact⟨hb.ag (h i hi).1 hn,(hb.frozen (p:=⟨g,o+i,none⟩) hl hn).trans (h i hi).2⟩,fun h0=>(h.ints h0).but hb (h.lt h0) hn⟩
theorem zzd (w:World) (n:Nat) (t:TypeId):Ints .u64 (w.alloc (.cells (madeCells #[.int .u64 0] n) t)) w.heap.size:=fun i v hv=>by
 rw[World.cell?_alloc_new] at hv
 unfold madeCells at hv
 rw[Array.getElem?_map] at hv
 obtain⟨x,-,rfl⟩:=Option.map_eq_some_iff.1 hv
 exact⟨0,by simp[Nat.mod_one]⟩
theorem Seg.made (w:World) (n:Nat) (t:TypeId):Seg (w.alloc (.cells (madeCells #[.int .u64 0] n) t)) w.heap.size 0 (List.replicate n 0):=⟨fun i hi=>by
 have:=Row.made .u64 w n t i hi
 rw[Nat.zero_add];exact this,fun _=>zzd w n t⟩
structure Part (g o n:Nat) (w w':World):Prop where
 but:But [g] w w'
 cell:∀ i,(i<o∨o+n≤i)→w'.cell? ⟨g,i,none⟩=w.cell? ⟨g,i,none⟩
 frozen:∀ i,w'.frozen? ⟨g,i,none⟩=w.frozen? ⟨g,i,none⟩
theorem Part.refl (g o n:Nat) (w:World):Part g o n w w:=⟨But.refl _ _,fun _ _=>rfl,fun _=>rfl⟩
theorem Part.trans {g o n:Nat} {a b c:World} (h:Part g o n a b) (k:Part g o n b c):Part g o n a c :=
 ⟨h.but.trans k.but (fun _ hx=>.inl hx),fun i hi=>(k.cell i hi).trans (h.cell i hi),fun i=>(k.frozen i).trans (h.frozen i)⟩
theorem Part.wide {g o n o' n':Nat} {a b:World} (h:Part g o n a b) (h1:o'≤o) (h2:o+n≤o' + n'):Part g o' n' a b :=
 ⟨h.but,fun i hi=>h.cell i (by omega),h.frozen⟩
theorem Part.drewN {g o n:Nat} {a b:World} (h:Part g o n a b) (k:Nat):Part g o n a (b.drewN k):=⟨h.but.drewN k,h.cell,h.frozen⟩
theorem Part.setCell {g o n:Nat} {a b:World} (h:Part g o n a b) (i:Nat) (hi:i<n) (u:Value):Part g o n a (b.setCell ⟨g,o+i,none⟩ u) :=
 ⟨h.but.setCell (.inl (by simp)) _,fun j hj=>by rw[World.cell?_setCell_other _ _ _ _ (fun e=>by have:=(Addr.mk.inj e).2.1;omega)];exact h.cell j hj,fun j=>by rw[World.frozen?_setCell];exact h.frozen j⟩
theorem Seg.zqk {g n:Nat} {rs ss:List Nat} {w w':World} {o:Nat} (h:Seg w g 0 rs) (hp:Part g o n w w') (hs:Seg w' g o ss) (hn:ss.length=n) (hl:o+n≤rs.length):∀ i,i<(rs.take o++ss++rs.drop (o+n)).length→w'.cell? ⟨g,0+i,none⟩=some (.int .u64 ((rs.take o++ss++rs.drop (o+n))[i]?.getD 0:Nat))∧w'.frozen? ⟨g,0+i,none⟩=false:=fun i hi=>by
 have hl':(rs.take o).length=o:=by rw[List.length_take];omega
 have hi':i<rs.length:=by simp only[List.length_append,List.length_drop,hl',hn] at hi;omega
 rw[Nat.zero_add]
 refine⟨?_,(hp.frozen i).trans (by have:=(h i hi').2;rw[Nat.zero_add] at this;exact this)⟩
 rcases Nat.lt_or_ge i o with h1 | h1
 ·rw[hp.cell i (.inl h1)]
  have:=(h i hi').1
  rw[Nat.zero_add] at this
  rw[this,List.append_assoc,List.getElem?_append_left (by omega),List.getElem?_take_of_lt h1]
 ·rcases Nat.lt_or_ge i (o+n) with h2 | h2
  ·have:=(hs (i-o) (by omega)).1
   rw[show o+(i-o)=i from by omega] at this
   rw[this,List.append_assoc,List.getElem?_append_right (by omega),hl',List.getElem?_append_left (by omega)]
  ·rw[hp.cell i (.inr h2)]
   have:=(h i hi').1
   rw[Nat.zero_add] at this
   rw[this,List.getElem?_append_right (by rw[List.length_append,hl',hn];exact h2),List.length_append,hl',hn,List.getElem?_drop,show o+n+(i-(o+n))=i from by omega]
theorem Seg.whole {g n:Nat} {rs ss:List Nat} {w w':World} {o:Nat} (h:Seg w g 0 rs) (hp:Part g o n w w') (hs:Seg w' g o ss) (hn:ss.length=n) (hl:o+n≤rs.length):Seg w' g 0 (rs.take o++ss++rs.drop (o+n)):=by(
 refine⟨fun i hi=>?_,fun h0 i v hv=>?_⟩
 ·exact h.zqk hp hs hn hl i hi
 ·(
 rcases Nat.lt_or_ge i o with h1 | h1
 ·exact h.ints (by simp only[List.length_append,List.length_drop,List.length_take,hn] at h0;omega) i v (by rw[← hp.cell i (.inl h1)];exact hv)
 ·rcases Nat.lt_or_ge i (o+n) with h2 | h2
  ·exact hs.ints (by omega) i v hv
  ·exact h.ints (by simp only[List.length_append,List.length_drop,List.length_take,hn] at h0;omega) i v (by rw[← hp.cell i (.inr h2)];exact hv)))
def Off (g:Nat) (v:Value):Prop:=∀ b off n c,v=.slice (some ⟨b,off,none⟩) n c→b≠g
theorem Sl.lt {k:IntKind} {w:World} {v:Value} {xs:List Nat} (h:Sl k w v xs) (h0:0<xs.length) (b off n c:Nat) (e:v=.slice (some ⟨b,off,none⟩) n c):b<w.heap.size:=by(
 rcases h.open with ⟨rfl,-⟩|⟨-,b',off',c',e',-,hb,-⟩
 ·simp at h0
 ·rw[e'] at e
  simp only[Value.slice.injEq,Option.some.injEq,Addr.mk.injEq] at e
  obtain⟨⟨rfl,-⟩,-⟩:=e
  exact hb)
/-! ### sums of words, step by step -/
theorem ztf (B:Nat) (rs:List Nat) (k c s c' t V W:Nat) (hk:k<rs.length) (h:vl B rs+c*B^k=V+W) (e:s+B*c'=rs[k]?.getD 0+t+c):vl B (rs.set k s)+c' * B^(k+1)=V+(W+t*B^k):=by(
 have h2:=fw B rs k s hk
 have h3:(s+B*c')*B^k=(rs[k]?.getD 0+t+c)*B^k:=by rw[e]
 rw[Nat.pow_succ]
 generalize B^k=P at *
 generalize vl B (rs.set k s)=S at *
 generalize rs[k]?.getD 0=r at *
 grind)
theorem zzy (B:Nat) (rs:List Nat) (k c s c' t V W:Nat) (hk:k<rs.length) (h:vl B rs+W=V+c*B^k) (e:s+t+c=rs[k]?.getD 0+B*c'):vl B (rs.set k s)+(W+t*B^k)=V+c' * B^(k+1):=by(
 have h2:=fw B rs k s hk
 have h3:(s+t+c)*B^k=(rs[k]?.getD 0+B*c')*B^k:=by rw[e]
 rw[Nat.pow_succ]
 generalize B^k=P at *
 generalize vl B (rs.set k s)=S at *
 generalize rs[k]?.getD 0=r at *
 grind)
structure zat (r0 rs:List Nat) (k c W:Nat):Prop where
 len:rs.length=r0.length
 mem:∀ x ∈ rs,x < 18446744073709551616
 val:vl 18446744073709551616 rs+c * 18446744073709551616^k=vl 18446744073709551616 r0+W
structure zao (r0 rs:List Nat) (k c W:Nat):Prop where
 len:rs.length=r0.length
 mem:∀ x ∈ rs,x < 18446744073709551616
 val:vl 18446744073709551616 rs+W=vl 18446744073709551616 r0+c * 18446744073709551616^k
theorem zat.start (r0:List Nat) (h:∀ x ∈ r0,x < 18446744073709551616):zat r0 r0 0 0 0:=⟨rfl,h,by omega⟩
theorem zao.start (r0:List Nat) (h:∀ x ∈ r0,x < 18446744073709551616):zao r0 r0 0 0 0:=⟨rfl,h,by omega⟩
theorem zat.step {r0 rs:List Nat} {k c W:Nat} (h:zat r0 rs k c W) (hk:k<rs.length) (s c' t:Nat) (hs:s < 18446744073709551616) (e:rs[k]?.getD 0+t+c=s + 18446744073709551616*c'):zat r0 (rs.set k s) (k+1) c' (W+t * 18446744073709551616^k) :=
 ⟨by rw[List.length_set];exact h.len,mem_set h.mem _ _ hs,ztf _ rs k c s c' t _ _ hk h.val e.symm⟩
theorem zao.step {r0 rs:List Nat} {k c W:Nat} (h:zao r0 rs k c W) (hk:k<rs.length) (s c' t:Nat) (hs:s < 18446744073709551616) (e:s+t+c=rs[k]?.getD 0 + 18446744073709551616*c'):zao r0 (rs.set k s) (k+1) c' (W+t * 18446744073709551616^k) :=
 ⟨by rw[List.length_set];exact h.len,mem_set h.mem _ _ hs,zzy _ rs k c s c' t _ _ hk h.val e⟩
theorem zzq {B:Nat} (hB:1<B):∀ (xs ys:List Nat),xs.length=ys.length→(∀ x ∈ xs,x<B)→(∀ x ∈ ys,x<B)→vl B xs=vl B ys→xs=ys
 | [],[],_,_,_,_=>rfl
 | x::xs,y::ys,hl,hx,hy,h=>by
  simp only[vl] at h
  have h1:=hx x (by simp)
  have h2:=hy y (by simp)
  have e1:x=y:=by
   have a1:(x+B*vl B xs)%B=x:=by rw[Nat.add_mul_mod_self_left,Nat.mod_eq_of_lt h1]
   have a2:(y+B*vl B ys)%B=y:=by rw[Nat.add_mul_mod_self_left,Nat.mod_eq_of_lt h2]
   rw[← a1,← a2,h]
  subst e1
  have e2:vl B xs=vl B ys:=Nat.eq_of_mul_eq_mul_left (by omega:0<B) (by omega)
  rw[zzq hB xs ys (by simpa using hl) (fun z hz=>hx z (by simp[hz])) (fun z hz=>hy z (by simp[hz])) e2]
end Go.Proofs.YtagmkkiagjmimaaGreatDoor
