/- The built-in copy between rows of words, -/
import Derived.Laws.CopyOwn
import Derived.Test.YtagmkkiagjmimaaGreatDoorXBase
namespace Go.Proofs.YtagmkkiagjmimaaGreatDoor
set_option linter.unusedVariables false
open Go.RowKit
theorem zhn (xs:List Nat) (j:Nat) (v:Value) (h:(xs.map fun (x:Nat)=>Value.int .u64 (x:Int))[j]? = some v):j<xs.length∧v=.int .u64 (xs[j]?.getD 0:Nat):=by(
 simp only[List.getElem?_map,Option.map_eq_some_iff] at h
 obtain⟨x,hx,rfl⟩:=h
 exact⟨(List.getElem?_eq_some_iff.1 hx).1,by rw[hx];rfl⟩)
theorem addr_add (b off j:Nat):(⟨b,off,none⟩:Addr).add j=⟨b,off+j,none⟩:=by by_cases h:j=0 <;> simp[Addr.add,h]
theorem br (w:World) (g:Nat):∀ (vs:List Value) (o:Nat),But [g] w (w.setCells g o vs)
 | [],_=>But.refl _ _
 | v::vs,o=>by
  rw[World.setCells]
  exact ((But.refl [g] w).setCell (p:=⟨g,o,none⟩) (by simp) v).trans (br _ g vs (o+1)) (fun _ h=>.inl h)
theorem zfy (g:Nat):∀ (xs:List Nat) (o:Nat) (w:World),Ints .u64 w g→Ints .u64 (w.setCells g o (xs.map fun (x:Nat)=>Value.int .u64 (x:Int))) g
 | [],_,_,h=>h
 | x::xs,o,w,h=>by
  rw[List.map_cons,World.setCells]
  exact zfy g xs (o+1) _ (h.set o x)
theorem qao {w:World} {g o:Nat} {rs:List Nat} (h:Seg w g o rs) (xs:List Nat) (hl:xs.length≤rs.length) :
   Seg (w.setCells g o (xs.map fun (x:Nat)=>Value.int .u64 (x:Int))) g o (xs++rs.drop xs.length)∧Part g o xs.length w (w.setCells g o (xs.map fun (x:Nat)=>Value.int .u64 (x:Int))):=by(
 refine⟨⟨fun i hi=>⟨?_,?_⟩,fun h0=>zfy _ _ _ _ (h.ints (by simp only[List.length_append,List.length_drop] at h0;omega))⟩,br _ _ _ _,fun i hi=>?_,fun i=>World.frozen?_setCells _ _ _ _ _⟩
 ·(
 simp only[List.length_append,List.length_drop] at hi
 rcases Nat.lt_or_ge i xs.length with h1 | h1
 ·have:=World.cell?_setCells_in g (xs.map fun (x:Nat)=>Value.int .u64 (x:Int)) o w (fun j hj=>by rw[(h j (by simp at hj;omega)).1];rfl) i (by simpa using h1)
  rw[this,List.getElem?_append_left h1]
  simp[List.getElem?_eq_getElem h1]
 ·rw[World.cell?_setCells_out g _ o w _ (fun _ _=>.inr (by simp;omega)),(h i (by omega)).1,List.getElem?_append_right h1,List.getElem?_drop,show xs.length+(i-xs.length)=i from by omega])
 ·simp only[List.length_append,List.length_drop] at hi
  rw[World.frozen?_setCells];exact (h i (by omega)).2
 ·exact World.cell?_setCells_out g _ o w _ (fun _ _=>by simp;omega))
theorem jm {P:Program} (w:World) (dT sT elem:TypeId) (hu:P.underlying dT=some (.slice elem)) (hsz:(P.info? elem).map (·.size)=some 1)
   (g off dLen dCap:Nat) (vs:Value) (rs xs:List Nat) (hg:Seg w g off rs) (hr:dLen=rs.length) (hx:Sl .u64 w vs xs) (hl:xs.length≤rs.length) :
   ∃ w',(∀ ty,(Builtin.copy_ #[dT,sT] ty #[.slice (some ⟨g,off,none⟩) dLen dCap,vs]).run P w=.ok (goInt xs.length) w')∧Hid (Seg w' g off (xs++rs.drop xs.length)∧Part g off xs.length w w'):=by(
 obtain⟨ad,cap,rfl,-,hc,-⟩:=hx
 subst hr
 rcases Nat.eq_zero_or_pos xs.length with h0 | h0
 ·have e:xs=[]:=List.length_eq_zero_iff.1 h0
  subst e
  exact⟨w,fun ty=>run_copy_none w dT sT ty elem _ _ _ _ _ _ hu hsz (by simp),by simpa using hg,Part.refl _ _ _ _⟩
 ·(
 obtain⟨b,off',rfl,-⟩:=hc 0 h0
 refine⟨_,fun ty=>?_,qao hg xs hl⟩
 have hrun:=run_copy_cells (P:=P) w dT sT ty elem g off rs.length dCap ⟨b,off',none⟩ xs.length cap (xs.map fun (x:Nat)=>Value.int .u64 (x:Int)) hu hsz (by rw[List.length_map];exact (Nat.min_eq_left hl).symm)
  (fun j v hj=>by
   obtain⟨h1,rfl⟩:=zhn xs j v hj
   obtain⟨b2,off2,e,h2⟩:=hc j h1
   simp only[Option.some.injEq,Addr.mk.injEq] at e
   obtain⟨rfl,rfl,-⟩:=e
   rw[addr_add];exact h2)
  (fun j hj=>by rw[(hg j (by simp at hj;omega)).1];rfl) (fun j hj=>(hg j (by simp at hj;omega)).2) (fun v hv=>by
   simp only[List.mem_map] at hv
   obtain⟨x,-,rfl⟩:=hv
   rfl)
 rw[List.length_map] at hrun
 exact hrun))
structure Leh (a0 b0 a b xx xy yx yy:Nat) (back:Bool):Prop where
 i1:a*yy+b*xy=a0
 i2:a*yx+b*xx=b0
 det:if back then xy*yx=xx*yy+1 else xx*yy=xy*yx+1
 le:yx≤yy
structure Good (a b xx xy yx yy:Nat):Prop where
 p1:0<xy
 p2:0<yx
 p3:xx≤xy
 p4:yy≤b
 p5:b+(xy+yy)≤a
theorem Leh.start (a b:Nat):Leh a b a b 1 0 0 1 false:=⟨by omega,by omega,by simp,by omega⟩
def Lst (a0 b0 a b xx xy yx yy:Nat) (back:Bool):Prop:=Leh a0 b0 a b xx xy yx yy back∧b≤a∧((xx=1∧xy=0∧yx=0∧yy=1)∨Good a b xx xy yx yy)
theorem Lst.yy {a0 b0 a b xx xy yx yy:Nat} {back:Bool} (h:Lst a0 b0 a b xx xy yx yy back):0<yy:=by(
 obtain⟨h1,-,h2 | h2⟩:=h
 ·omega
 ·have:=h1.le;have:=h2.p2;omega)
theorem Lst.next {a0 b0 a b xx xy yx yy:Nat} {back:Bool} (h:Lst a0 b0 a b xx xy yx yy back) (q b':Nat) (e:a=q*b+b') (hb':b' < b) :
   Leh a0 b0 b b' yx yy (xx+q*yx) (xy+q*yy) (!back)∧0<xx+q*yx∧yx≤yy:=by(
 obtain⟨h1,hba,h2⟩:=h
 have hq:1≤q:=by
  rcases Nat.eq_zero_or_pos q with h0 | h0
  ·subst h0;omega
  ·exact h0
 have hle:xx+q*yx≤xy+q*yy:=by
  rcases h2 with h2 | h2
  ·obtain⟨rfl,rfl,rfl,rfl⟩:=h2;omega
  ·exact Nat.add_le_add h2.p3 (Nat.mul_le_mul_left _ h1.le)
 have hp:0<xx+q*yx:=by
  rcases h2 with h2 | h2
  ·omega
  ·have:=Nat.mul_le_mul hq h2.p2;omega
 refine⟨⟨?_,?_,?_,hle⟩,hp,h1.le⟩
 ·rw[← h1.i1,e];grind
 ·rw[← h1.i2,e];grind
 ·have:=h1.det
  cases back <;> simp at this ⊢ <;> grind)
theorem Leh.bound {a0 b0 a b xx xy yx yy:Nat} {back:Bool} (h:Leh a0 b0 a b xx xy yx yy back) (ha:0<a):yy≤a0∧yx≤b0:=by(
 have h1:=h.i1
 have h2:=h.i2
 have h3:=Nat.mul_le_mul_right yy ha
 have h4:=Nat.mul_le_mul_right yx ha
 omega)
theorem Leh.qcw {a0 b0 a b xx xy yx yy:Nat} {back:Bool} (h:Leh a0 b0 a b xx xy yx yy back) (ha:0<a) (hb:0<b):xy+yy≤a0:=by(
 have h1:=h.i1
 have h3:=Nat.mul_le_mul_right yy ha
 have h4:=Nat.mul_le_mul_right xy hb
 omega)
theorem Lst.taken {a0 b0 a b xx xy yx yy:Nat} {back:Bool} (h:Lst a0 b0 a b xx xy yx yy back) (q b':Nat) (e:a=q*b+b') (hb':b' < b) (c1:xy+q*yy≤b') (c2:yy+(xy+q*yy)≤b-b'):Lst a0 b0 b b' yx yy (xx+q*yx) (xy+q*yy) (!back):=by
 obtain⟨n1,n2,n3⟩:=h.next q b' e hb'
 exact⟨n1,by omega,.inr ⟨h.yy,n2,n3,c1,by omega⟩⟩
theorem zwu (x y X Y p q r s:Nat) (hx:X*p+Y*q=x) (hy:X*r+Y*s=y) (hd:∀ d,d ∣ x→d ∣ y→d ∣ X∧d ∣ Y):Nat.gcd X Y=Nat.gcd x y:=by(
 apply Nat.dvd_antisymm
 ·apply Nat.dvd_gcd
  ·rw[← hx];exact Nat.dvd_add (Nat.dvd_mul_right_of_dvd (Nat.gcd_dvd_left _ _) _) (Nat.dvd_mul_right_of_dvd (Nat.gcd_dvd_right _ _) _)
  ·rw[← hy];exact Nat.dvd_add (Nat.dvd_mul_right_of_dvd (Nat.gcd_dvd_left _ _) _) (Nat.dvd_mul_right_of_dvd (Nat.gcd_dvd_right _ _) _)
 ·obtain⟨h1,h2⟩:=hd _ (Nat.gcd_dvd_left x y) (Nat.gcd_dvd_right x y)
  exact Nat.dvd_gcd h1 h2)
theorem Leh.apply {a0 b0 a b xx xy yx yy:Nat} {back:Bool} (h:Leh a0 b0 a b xx xy yx yy back) (g:Good a b xx xy yx yy) (x y K ε δ:Nat) (hx:x=a0*K+ε) (hy:y=b0*K+δ) (hε:ε<K) (hδ:δ<K) :
   ∃ X Y:Nat,(if back then X+xx*x=xy*y∧Y+yy*y=yx*x else X+xy*y=xx*x∧Y+yx*x=yy*y)∧Y<X∧X≤y∧Nat.gcd X Y=Nat.gcd x y:=by(
 obtain⟨i1,i2,det,le⟩:=h
 obtain⟨p1,p2,p3,p4,p5⟩:=g
 have m1:yy*δ≤b*K:=Nat.mul_le_mul p4 (Nat.le_of_lt hδ)
 have m2:yx*ε≤b*K:=Nat.mul_le_mul (Nat.le_trans le p4) (Nat.le_of_lt hε)
 have m3:(xy+yy)*(δ+1)≤(a-b)*K:=Nat.mul_le_mul (by omega) hδ
 have m4:(xx+yx)*(ε+1)≤(a-b)*K:=Nat.mul_le_mul (by omega) hε
 have m5:(a-b)*K+b*K=a*K:=by rw[← Nat.add_mul];congr 1;omega
 cases back
 ·(
 simp only[Bool.false_eq_true,if_false] at det ⊢
 have e1:yy*b0=yx*a0+b:=by rw[← i1,← i2];grind
 have e2:xx*a0=xy*b0+a:=by rw[← i1,← i2];grind
 have f1:yy*y=yx*a0*K+b*K+yy*δ:=by rw[hy];grind
 have f2:yx*x=yx*a0*K+yx*ε:=by rw[hx];grind
 have f3:xx*x=xy*b0*K+a*K+xx*ε:=by rw[hx];grind
 have f4:xy*y=xy*b0*K+xy*δ:=by rw[hy];grind
 have g1:(xy+yy)*(δ+1)=xy*δ+yy*δ+xy+yy:=by grind
 obtain⟨Y,hY⟩:∃ Y,Y+yx*x=yy*y:=⟨yy*y-yx*x,by omega⟩
 obtain⟨X,hX⟩:∃ X,X+xy*y=xx*x:=⟨xx*x-xy*y,by omega⟩
 have hYX:Y<X:=by omega
 have hx2:X*yy+Y*xy=x:=by
  have:X*yy+Y*xy+xy*y*yy+yx*x*xy=xx*x*yy+yy*y*xy:=by rw[← hX,← hY];grind
  have e:xx*x*yy=(xy*yx+1)*x:=by rw[← det];grind
  grind
 have hy2:X*yx+Y*xx=y:=by
  have:X*yx+Y*xx+xy*y*yx+yx*x*xx=xx*x*yx+yy*y*xx:=by rw[← hX,← hY];grind
  have e:yy*y*xx=(xy*yx+1)*y:=by rw[← det];grind
  grind
 refine⟨X,Y,⟨hX,hY⟩,hYX,?_,zwu x y X Y yy xy yx xx hx2 hy2 (fun d d1 d2=>⟨?_,?_⟩)⟩
 ·rw[← hy2];have:=Nat.le_mul_of_pos_right X p2;omega
 ·exact (Nat.dvd_add_left (Nat.dvd_mul_left_of_dvd d2 xy)).1 (by rw[hX];exact Nat.dvd_mul_left_of_dvd d1 xx)
 ·exact (Nat.dvd_add_left (Nat.dvd_mul_left_of_dvd d1 yx)).1 (by rw[hY];exact Nat.dvd_mul_left_of_dvd d2 yy))
 ·(
 simp only[if_true] at det ⊢
 have e1:yx*a0=yy*b0+b:=by rw[← i1,← i2];grind
 have e2:xy*b0=xx*a0+a:=by rw[← i1,← i2];grind
 have f1:yx*x=yy*b0*K+b*K+yx*ε:=by rw[hx];grind
 have f2:yy*y=yy*b0*K+yy*δ:=by rw[hy];grind
 have f3:xy*y=xx*a0*K+a*K+xy*δ:=by rw[hy];grind
 have f4:xx*x=xx*a0*K+xx*ε:=by rw[hx];grind
 have g1:(xx+yx)*(ε+1)=xx*ε+yx*ε+xx+yx:=by grind
 obtain⟨Y,hY⟩:∃ Y,Y+yy*y=yx*x:=⟨yx*x-yy*y,by omega⟩
 obtain⟨X,hX⟩:∃ X,X+xx*x=xy*y:=⟨xy*y-xx*x,by omega⟩
 have hYX:Y<X:=by omega
 have hx2:X*yy+Y*xy=x:=by
  have:X*yy+Y*xy+xx*x*yy+yy*y*xy=xy*y*yy+yx*x*xy:=by rw[← hX,← hY];grind
  have e:yx*x*xy=(xx*yy+1)*x:=by rw[← det];grind
  grind
 have hy2:X*yx+Y*xx=y:=by
  have:X*yx+Y*xx+xx*x*yx+yy*y*xx=xy*y*yx+yx*x*xx:=by rw[← hX,← hY];grind
  have e:xy*y*yx=(xx*yy+1)*y:=by rw[← det];grind
  grind
 refine⟨X,Y,⟨hX,hY⟩,hYX,?_,zwu x y X Y yy xy yx xx hx2 hy2 (fun d d1 d2=>⟨?_,?_⟩)⟩
 ·rw[← hy2];have:=Nat.le_mul_of_pos_right X p2;omega
 ·exact (Nat.dvd_add_left (Nat.dvd_mul_left_of_dvd d1 xx)).1 (by rw[hX];exact Nat.dvd_mul_left_of_dvd d2 xy)
 ·exact (Nat.dvd_add_left (Nat.dvd_mul_left_of_dvd d2 yy)).1 (by rw[hY];exact Nat.dvd_mul_left_of_dvd d1 yx)))
theorem zjl (M a b u v:Nat) (ha:a<M) (hb:b<M) (e:a+M*u=b+M*v):a=b:=by(
 have h1:(a+M*u)%M=a:=by rw[Nat.add_mul_mod_self_left,Nat.mod_eq_of_lt ha]
 have h2:(b+M*v)%M=b:=by rw[Nat.add_mul_mod_self_left,Nat.mod_eq_of_lt hb]
 rw[← h1,← h2,e])
theorem zgj (x1 x0 m n l:Nat) (hn:n≤63) (hl:l < 18446744073709551616^m):∃ ε,l + 18446744073709551616^m*(x0 + 18446744073709551616*x1)=(x1*2^n+x0/2^(64-n))*(2^(64-n) * 18446744073709551616^m)+ε∧ε<2^(64-n) * 18446744073709551616^m:=by(
 have hp:18446744073709551616=2^n*2^(64-n):=by rw[← Nat.pow_add,show n+(64-n)=64 from by omega]
 have h1:=Nat.div_add_mod x0 (2^(64-n))
 have h2:x0%2^(64-n)+1≤2^(64-n):=Nat.mod_lt _ (Nat.pow_pos (by omega))
 refine⟨x0%2^(64-n) * 18446744073709551616^m+l,?_,?_⟩
 ·(
 have h3:x0 + 18446744073709551616*x1=(x1*2^n+x0/2^(64-n))*2^(64-n)+x0%2^(64-n):=by
  conv=>lhs;rw[← h1]
  rw[hp]
  generalize 2^(64-n)=P
  generalize 2^n=Q
  grind
 rw[h3]
 generalize (x1*2^n+x0/2^(64-n))=A
 generalize 2^(64-n)=P
 generalize x0%P=r
 generalize 18446744073709551616^m=M
 grind)
 ·have h3:=Nat.mul_le_mul_right (18446744073709551616^m) h2
  rw[Nat.add_mul,Nat.one_mul] at h3
  omega)
theorem zwt (a b K ε δ X Y:Nat) (hX:X=a*K+ε) (hY:Y=b*K+δ) (hε:ε<K) (hle:Y≤X):b≤a:=by(
 rcases Nat.lt_or_ge a b with h | h
 ·exfalso
  have:=Nat.mul_le_mul_right K h
  rw[Nat.succ_mul] at this
  omega
 ·exact h)
structure kw (ps qs ps' qs':List Nat) (c1 c2 c3 c4 k up dn lf rt bo ow:Nat):Prop where
 lp:ps'.length=ps.length
 lq:qs'.length=qs.length
 mp:∀ x ∈ ps',x < 18446744073709551616
 mq:∀ x ∈ qs',x < 18446744073709551616
 dp:ps'.drop k=ps.drop k
 dq:qs'.drop k=qs.drop k
 v1:vl 18446744073709551616 (ps'.take k)+c2*vl 18446744073709551616 (qs.take k)+up * 18446744073709551616^k=c1*vl 18446744073709551616 (ps.take k)+(dn+bo) * 18446744073709551616^k
 v2:vl 18446744073709551616 (qs'.take k)+c3*vl 18446744073709551616 (ps.take k)+rt * 18446744073709551616^k=c4*vl 18446744073709551616 (qs.take k)+(lf+ow) * 18446744073709551616^k
theorem kw.start (ps qs:List Nat) (c1 c2 c3 c4:Nat) (hp:∀ x ∈ ps,x < 18446744073709551616) (hq:∀ x ∈ qs,x < 18446744073709551616):kw ps qs ps qs c1 c2 c3 c4 0 0 0 0 0 0 0 :=
 ⟨rfl,rfl,hp,hq,rfl,rfl,by simp[vl],by simp[vl]⟩
theorem zhp (xs ys:List Nat) (k:Nat) (h:xs.drop k=ys.drop k):xs[k]?.getD 0=ys[k]?.getD 0:=by
 have:=congrArg (fun l:List Nat=>l[0]?.getD 0) h
 simpa [List.getElem?_drop] using this
theorem take_set (rs:List Nat) (k s:Nat) (h:k<rs.length):(rs.set k s).take (k+1)=rs.take k++[s]:=by
 rw[p9 _ k (by rw[List.length_set];exact h),List.getElem?_set_self h,List.take_set_of_le (Nat.le_refl k)];rfl
theorem znx (rs:List Nat) (k s:Nat):(rs.set k s).drop (k+1)=rs.drop (k+1):=List.drop_set_of_lt (by omega)
theorem zwf (rs:List Nat) (k s:Nat) (h:k<rs.length):vl 18446744073709551616 ((rs.set k s).take (k+1))=vl 18446744073709551616 (rs.take k)+s * 18446744073709551616^k:=by
 rw[take_set rs k s h,qg,vl,vl,List.length_take,Nat.min_eq_left (by omega)]
 simp[Nat.mul_comm]
theorem kw.step {ps qs ps' qs':List Nat} {c1 c2 c3 c4 k up dn lf rt bo ow:Nat} (h:kw ps qs ps' qs' c1 c2 c3 c4 k up dn lf rt bo ow) (hk:k<ps.length) (hl:ps.length=qs.length) (s1 s2 up' dn' lf' rt' bo' ow' p1 m1 p2 m2:Nat) (hs1:s1 < 18446744073709551616) (hs2:s2 < 18446744073709551616)
   (e1:c1*ps[k]?.getD 0+up=p1 + 18446744073709551616*up') (e2:c2*qs[k]?.getD 0+dn=m1 + 18446744073709551616*dn') (e3:s1+m1+bo=p1 + 18446744073709551616*bo')
   (e4:c4*qs[k]?.getD 0+rt=p2 + 18446744073709551616*rt') (e5:c3*ps[k]?.getD 0+lf=m2 + 18446744073709551616*lf') (e6:s2+m2+ow=p2 + 18446744073709551616*ow') :
   kw ps qs (ps'.set k s1) (qs'.set k s2) c1 c2 c3 c4 (k+1) up' dn' lf' rt' bo' ow':=by(
 have a1:=h.lp
 have a2:=h.lq
 have d1:ps'.drop (k+1)=ps.drop (k+1):=by have:=congrArg (List.drop 1) h.dp;rwa [List.drop_drop,List.drop_drop] at this
 have d2:qs'.drop (k+1)=qs.drop (k+1):=by have:=congrArg (List.drop 1) h.dq;rwa [List.drop_drop,List.drop_drop] at this
 refine⟨by rw[List.length_set];exact a1,by rw[List.length_set];exact a2,mem_set h.mp _ _ hs1,mem_set h.mq _ _ hs2,by rw[znx];exact d1,by rw[znx];exact d2,?_,?_⟩
 ·(
 rw[zwf _ _ _ (by omega),jc 18446744073709551616 qs k (by omega),jc 18446744073709551616 ps k hk,Nat.pow_succ]
 have hv:=h.v1
 generalize vl 18446744073709551616 (ps'.take k)=A at *
 generalize vl 18446744073709551616 (qs.take k)=Q at *
 generalize vl 18446744073709551616 (ps.take k)=P at *
 generalize 18446744073709551616^k=M at *
 generalize ps[k]?.getD 0=a at *
 generalize qs[k]?.getD 0=b at *
 have f:(s1+c2*b + 18446744073709551616*up' + dn+bo)*M=(c1*a + 18446744073709551616*dn' + 18446744073709551616*bo' + up)*M:=by congr 1;omega
 grind)
 ·(
 rw[zwf _ _ _ (by omega),jc 18446744073709551616 qs k (by omega),jc 18446744073709551616 ps k hk,Nat.pow_succ]
 have hv:=h.v2
 generalize vl 18446744073709551616 (qs'.take k)=A at *
 generalize vl 18446744073709551616 (qs.take k)=Q at *
 generalize vl 18446744073709551616 (ps.take k)=P at *
 generalize 18446744073709551616^k=M at *
 generalize ps[k]?.getD 0=a at *
 generalize qs[k]?.getD 0=b at *
 have f:(s2+c3*a + 18446744073709551616*rt' + lf+ow)*M=(c4*b + 18446744073709551616*lf' + 18446744073709551616*ow' + rt)*M:=by congr 1;omega
 grind))
theorem kw.fin {ps qs ps' qs':List Nat} {c1 c2 c3 c4 up dn lf rt bo ow:Nat} (h:kw ps qs ps' qs' c1 c2 c3 c4 ps.length up dn lf rt bo ow) (hl:ps.length=qs.length) (P' Q' X Y hp hq:Nat)
   (eP:P'=vl 18446744073709551616 ps + 18446744073709551616^ps.length*hp) (eQ:Q'=vl 18446744073709551616 qs + 18446744073709551616^ps.length*hq) (eX:X+c2*Q'=c1*P') (eY:Y+c3*P'=c4*Q') (hX:X < 18446744073709551616^ps.length) (hY:Y < 18446744073709551616^ps.length):vl 18446744073709551616 ps'=X∧vl 18446744073709551616 qs'=Y:=by(
 have h1:=h.v1
 have h2:=h.v2
 have b1:=mg (by omega:0 < 18446744073709551616) ps' h.mp
 have b2:=mg (by omega:0 < 18446744073709551616) qs' h.mq
 have a1:=h.lp
 have a2:=h.lq
 rw[a1] at b1
 rw[a2,← hl] at b2
 rw[List.take_of_length_le (by omega),List.take_of_length_le (by omega),List.take_of_length_le (by omega)] at h1 h2
 generalize 18446744073709551616^ps.length=M at *
 generalize vl 18446744073709551616 ps'=A at *
 generalize vl 18446744073709551616 qs'=C at *
 generalize vl 18446744073709551616 ps=P at *
 generalize vl 18446744073709551616 qs=Q at *
 subst eP eQ
 exact⟨zjl M A X (up+c1*hp) (dn+bo+c2*hq) b1 hX (by grind),zjl M C Y (rt+c4*hq) (lf+ow+c3*hp) b2 hY (by grind)⟩)
end Go.Proofs.YtagmkkiagjmimaaGreatDoor
