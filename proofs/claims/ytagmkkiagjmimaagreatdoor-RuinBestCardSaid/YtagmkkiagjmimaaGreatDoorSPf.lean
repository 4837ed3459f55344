/- What single operations do, as the Go tex -/
import Derived.Laws.AppendOwn
import Derived.Test.YtagmkkiagjmimaaGreatDoorSG0
namespace Go.Proofs.YtagmkkiagjmimaaGreatDoor
set_option linter.unusedVariables false
open Go.Proofs.Tryz
open Go.RowKit
set_option maxHeartbeats 4000000
set_option maxRecDepth 100000
def qct (ops:Array Oper):Bool:=(List.range ops.size).all fun i=>match ops[i]? with
 | some o=>o.after.all fun e=>!(Region.binds .any e) || decide (e.on<i)
 | none=>true
theorem zcb {ops:Array Oper} (h:qct ops=true):∀ i o,ops[i]? = some o→∀ e ∈ o.after,Region.binds .any e=true→e.on<i:=fun i o ho e he hb=>by
 have hi:i<ops.size:=(Array.getElem?_eq_some_iff.1 ho).1
 unfold qct at h
 rw[List.all_eq_true] at h
 have h1:=h i (List.mem_range.2 hi)
 simp only[ho] at h1
 rw[Array.all_eq_true_iff_forall_mem] at h1
 have h2:=h1 e he
 simpa [hb] using h2
def zfm (ops:Array Oper) (ps:List (Nat × Nat)):Bool:=ps.all fun p=>match ops[p.1]? with
 | some o=>o.after.any fun e=>Region.binds .any e && e.on==p.2
 | none=>false
theorem zdk {ops:Array Oper} {ps:List (Nat × Nat)} (h:zfm ops ps=true):∀ i j,(i,j) ∈ ps→∃ o,ops[i]? = some o∧∃ e ∈ o.after,Region.binds .any e=true∧e.on=j:=fun i j hij=>by
 unfold zfm at h
 rw[List.all_eq_true] at h
 have h1:=h (i,j) hij
 cases ho:ops[i]? with
 | none=>simp[ho] at h1
 | some o =>
  simp only[ho] at h1
  rw[Array.any_eq_true] at h1
  obtain⟨k,hk,h2⟩:=h1
  simp only[Bool.and_eq_true,beq_iff_eq] at h2
  exact⟨o,rfl,o.after[k],Array.getElem_mem hk,h2.1,h2.2⟩
def P4 (w:World) (g:Nat) (s:Bool) (x y:Int) (p:Option Addr):Prop:=w.cell? ⟨g,0,none⟩=some (.bool s)∧w.cell? ⟨g,1,none⟩=some (.int .u64 x)∧w.cell? ⟨g,2,none⟩=some (.int .u64 y)∧w.cell? ⟨g,3,none⟩=some (.pointer p)
theorem P4.but {w w':World} {g:Nat} {s:Bool} {x y:Int} {p:Option Addr} {l:List Nat} (h:P4 w g s x y p) (hb:But l w w') (hn:g ∉ l):P4 w' g s x y p:=⟨hb.ag h.1 hn,hb.ag h.2.1 hn,hb.ag h.2.2.1 hn,hb.ag h.2.2.2 hn⟩
theorem kr (w:World) (b i j:Nat) (v:Value) (hij:i≠j):(w.setCell ⟨b,i,none⟩ v).cell? ⟨b,j,none⟩=w.cell? ⟨b,j,none⟩:=World.cell?_setCell_other w ⟨b,i,none⟩ ⟨b,j,none⟩ v (fun e=>hij (Addr.mk.inj e).2.1)
theorem qas (w:World) (b:Nat) (v0 v1 v2 v3:Value) (c0:(w.cell? ⟨b,0,none⟩).isSome=true) (c1:(w.cell? ⟨b,1,none⟩).isSome=true) (c2:(w.cell? ⟨b,2,none⟩).isSome=true) (c3:(w.cell? ⟨b,3,none⟩).isSome=true) :
   (∀ j,j<4→((((w.setCell ⟨b,0,none⟩ v0).setCell ⟨b,1,none⟩ v1).setCell ⟨b,2,none⟩ v2).setCell ⟨b,3,none⟩ v3).cell? ⟨b,j,none⟩=#[v0,v1,v2,v3][j]?)∧∀ j,4≤j→((((w.setCell ⟨b,0,none⟩ v0).setCell ⟨b,1,none⟩ v1).setCell ⟨b,2,none⟩ v2).setCell ⟨b,3,none⟩ v3).cell? ⟨b,j,none⟩=w.cell? ⟨b,j,none⟩:=by(
 constructor
 ·(
 intro j hj
 have:j=0∨j=1∨j=2∨j=3:=by omega
 rcases this with rfl|rfl|rfl|rfl
 ·rw[kr _ _ 3 0 _ (by omega),kr _ _ 2 0 _ (by omega),kr _ _ 1 0 _ (by omega)]
  exact World.cell?_setCell_same' _ _ _ c0
 ·rw[kr _ _ 3 1 _ (by omega),kr _ _ 2 1 _ (by omega)]
  exact World.cell?_setCell_same' _ _ _ (by rw[kr _ _ 0 1 _ (by omega)];exact c1)
 ·rw[kr _ _ 3 2 _ (by omega)]
  exact World.cell?_setCell_same' _ _ _ (by rw[kr _ _ 1 2 _ (by omega),kr _ _ 0 2 _ (by omega)];exact c2)
 ·exact World.cell?_setCell_same' _ _ _ (by rw[kr _ _ 2 3 _ (by omega),kr _ _ 1 3 _ (by omega),kr _ _ 0 3 _ (by omega)];exact c3))
 ·intro j hj
  rw[kr _ _ 3 j _ (by omega),kr _ _ 2 j _ (by omega),kr _ _ 1 j _ (by omega),kr _ _ 0 j _ (by omega)])
theorem ay (n:Int) (d:Nat) (hd:d≠0) (hc:n.natAbs.Coprime d) (q:Rat) (h:q.num*d=n*q.den):q.num=n∧q.den=d:=by(
 have e:q=⟨n,d,hd,hc⟩:=by
  rw[Rat.mk_eq_mkRat,← Rat.mkRat_self q,Rat.mkRat_eq_iff q.den_nz hd]
  exact h
 rw[e]
 exact⟨rfl,rfl⟩)
def sgn (s:Bool) (m:Nat):Int:=if s then -(m:Int) else (m:Int)
theorem jd (s:Bool) (m:Nat):(sgn s m).natAbs=m:=by cases s <;> simp[sgn]
theorem ug (s:Bool) (m k:Nat):sgn s (m*k)=sgn s m*k:=by cases s <;> simp[sgn,Int.neg_mul]
theorem zno (f g:Rat):(f+g).num*(f.den*g.den:Nat)=(f.num*g.den+g.num*f.den)*(f+g).den:=by(
 have h:=Rat.add_def' f g
 rw[← Rat.mkRat_self (f+g),Rat.mkRat_eq_iff (f+g).den_nz (Nat.mul_ne_zero f.den_nz g.den_nz)] at h
 exact h)
theorem sj (f g:Rat):(f*g).num*(f.den*g.den:Nat)=(f.num*g.num)*(f*g).den:=by(
 have h:=Rat.mul_def' f g
 rw[← Rat.mkRat_self (f*g),Rat.mkRat_eq_iff (f*g).den_nz (Nat.mul_ne_zero f.den_nz g.den_nz)] at h
 exact h)
theorem zwp (a c:Int) (b b' d':Nat) (hab:a.natAbs.Coprime b) (hb:b' ∣ b) (hbd:b'.Coprime d'):(a*d' + c*b').natAbs.Coprime b':=by(
 rw[Nat.Coprime]
 have hp1:Nat.gcd (a*d' + c*b').natAbs b' ∣ b':=Nat.gcd_dvd_right _ _
 have hp2:Nat.gcd (a*d' + c*b').natAbs b' ∣ (a*d' + c*b').natAbs:=Nat.gcd_dvd_left _ _
 generalize Nat.gcd (a*d' + c*b').natAbs b'=p at *
 have h1:(p:Int) ∣ a*d' + c*b':=Int.ofNat_dvd_left.2 hp2
 have h2:(p:Int) ∣ c*b':=Int.dvd_mul_of_dvd_right (Int.natCast_dvd_natCast.2 hp1)
 have h3:(p:Int) ∣ a*d':=(Int.dvd_add_left h2).1 h1
 have h4:p ∣ a.natAbs*d':=by
  have:=Int.ofNat_dvd_left.1 h3
  rwa [Int.natAbs_mul,Int.natAbs_natCast] at this
 have h5:p.Coprime a.natAbs:=Nat.Coprime.coprime_dvd_left (Nat.dvd_trans hp1 hb) hab.symm
 have h6:p ∣ d':=h5.dvd_of_dvd_mul_left h4
 have h7:p ∣ Nat.gcd b' d':=Nat.dvd_gcd hp1 h6
 rw[hbd] at h7
 exact Nat.dvd_one.1 h7)
theorem zpm (f g:Rat) (s:Bool) (M k m:Nat) (hk:k=Nat.gcd f.den g.den) (hm:m=Nat.gcd M k) (hN:f.num*(g.den/k:Nat)+g.num*(f.den/k:Nat)=sgn s M):(f+g).num=sgn s (M/m)∧(f+g).den=(f.den/k)*(g.den/m):=by(
 have hb0:0<f.den:=Nat.pos_of_ne_zero f.den_nz
 have hd0:0<g.den:=Nat.pos_of_ne_zero g.den_nz
 have hk0:0<k:=by rw[hk];exact Nat.gcd_pos_of_pos_left _ hb0
 have kb:k ∣ f.den:=by rw[hk];exact Nat.gcd_dvd_left _ _
 have kd:k ∣ g.den:=by rw[hk];exact Nat.gcd_dvd_right _ _
 have hcop:(f.den/k).Coprime (g.den/k):=by rw[hk];exact Nat.coprime_div_gcd_div_gcd (by rw[← hk];exact hk0)
 have hm0:0<m:=by rw[hm];exact Nat.gcd_pos_of_pos_right _ hk0
 have mk:m ∣ k:=by rw[hm];exact Nat.gcd_dvd_right _ _
 have mM:m ∣ M:=by rw[hm];exact Nat.gcd_dvd_left _ _
 have c1:M.Coprime (f.den/k):=by
  have:=zwp f.num g.num f.den (f.den/k) (g.den/k) f.reduced (Nat.div_dvd_of_dvd kb) hcop
  rwa [hN,jd] at this
 have c2:M.Coprime (g.den/k):=by
  have:=zwp g.num f.num g.den (g.den/k) (f.den/k) g.reduced (Nat.div_dvd_of_dvd kd) hcop.symm
  rw[Int.add_comm] at this
  rwa [hN,jd] at this
 have c3:(M/m).Coprime (k/m):=by rw[hm];exact Nat.coprime_div_gcd_div_gcd (by rw[← hm];exact hm0)
 obtain⟨b',hb'⟩:=kb
 obtain⟨d',hd'⟩:=kd
 obtain⟨k',hk'⟩:=mk
 obtain⟨M',hM'⟩:=mM
 have e1:f.den/k=b':=by rw[hb',Nat.mul_div_cancel_left _ hk0]
 have e2:g.den/k=d':=by rw[hd',Nat.mul_div_cancel_left _ hk0]
 have e3:k/m=k':=by rw[hk',Nat.mul_div_cancel_left _ hm0]
 have e4:M/m=M':=by rw[hM',Nat.mul_div_cancel_left _ hm0]
 have e5:g.den/m=k' * d':=by rw[hd',hk',Nat.mul_assoc,Nat.mul_div_cancel_left _ hm0]
 rw[e1,e2] at hN
 rw[e1] at c1
 rw[e2] at c2
 rw[e3,e4] at c3
 rw[e1,e4,e5]
 have c1':M'.Coprime b':=Nat.Coprime.coprime_dvd_left ⟨m,by rw[hM',Nat.mul_comm]⟩ c1
 have c2':M'.Coprime d':=Nat.Coprime.coprime_dvd_left ⟨m,by rw[hM',Nat.mul_comm]⟩ c2
 have hb1:b'≠0:=by rintro rfl;rw[Nat.mul_zero] at hb';omega
 have hd1:d'≠0:=by rintro rfl;rw[Nat.mul_zero] at hd';omega
 have hk1:k'≠0:=by rintro rfl;rw[Nat.mul_zero] at hk';omega
 refine ay _ _ (Nat.mul_ne_zero hb1 (Nat.mul_ne_zero hk1 hd1)) (by rw[jd];exact c1'.mul_right (c3.mul_right c2')) _ ?_
 have hx:=zno f g
 generalize (f+g).num=n at *
 generalize (f+g).den=e at *
 have hs:sgn s M=sgn s M' * m:=by rw[hM',Nat.mul_comm,ug]
 rw[hs] at hN
 rw[hb',hd',hk'] at hx
 have hmz:(m:Int)≠0:=by omega
 have hkz:(k':Int)≠0:=by omega
 have hx2:(n*((b' * (k' * d'):Nat):Int))*(m*m*k')=(sgn s M' * e)*(m*m*k'):=by
  have h5:(f.num*(d':Int)+g.num*b')*(m*k')*e*m=sgn s M' * m*(m*k')*e*m:=by rw[hN]
  simp only[Int.natCast_mul] at hx ⊢
  grind
 exact Int.eq_of_mul_eq_mul_right (Int.mul_ne_zero (Int.mul_ne_zero hmz hmz) hkz) hx2)
theorem zev (f:Rat):f.num=sgn (decide (f.num<0)) f.num.natAbs:=by(
 unfold sgn
 by_cases h:f.num<0
 ·simp only[h,decide_true,if_true];omega
 ·simp only[h,decide_false,Bool.false_eq_true,if_false];omega)
theorem zot (f g:Rat) (p q:Nat) (hp:p=Nat.gcd f.num.natAbs g.den) (hq:q=Nat.gcd g.num.natAbs f.den):(f*g).num=sgn (decide (f.num<0) != decide (g.num<0)) (f.num.natAbs/p*(g.num.natAbs/q))∧(f*g).den=(f.den/q)*(g.den/p):=by(
 have hb0:0<f.den:=Nat.pos_of_ne_zero f.den_nz
 have hd0:0<g.den:=Nat.pos_of_ne_zero g.den_nz
 have hp0:0<p:=by rw[hp];exact Nat.gcd_pos_of_pos_right _ hd0
 have hq0:0<q:=by rw[hq];exact Nat.gcd_pos_of_pos_right _ hb0
 have pa:p ∣ f.num.natAbs:=by rw[hp];exact Nat.gcd_dvd_left _ _
 have pd:p ∣ g.den:=by rw[hp];exact Nat.gcd_dvd_right _ _
 have qc:q ∣ g.num.natAbs:=by rw[hq];exact Nat.gcd_dvd_left _ _
 have qb:q ∣ f.den:=by rw[hq];exact Nat.gcd_dvd_right _ _
 have c1:(f.num.natAbs/p).Coprime (g.den/p):=by rw[hp];exact Nat.coprime_div_gcd_div_gcd (by rw[← hp];exact hp0)
 have c2:(g.num.natAbs/q).Coprime (f.den/q):=by rw[hq];exact Nat.coprime_div_gcd_div_gcd (by rw[← hq];exact hq0)
 have c3:(f.num.natAbs/p).Coprime (f.den/q):=Nat.Coprime.coprime_dvd_left (Nat.div_dvd_of_dvd pa) (Nat.Coprime.coprime_dvd_right (Nat.div_dvd_of_dvd qb) f.reduced)
 have c4:(g.num.natAbs/q).Coprime (g.den/p):=Nat.Coprime.coprime_dvd_left (Nat.div_dvd_of_dvd qc) (Nat.Coprime.coprime_dvd_right (Nat.div_dvd_of_dvd pd) g.reduced)
 have hx:=sj f g
 rw[zev f,zev g] at hx
 generalize decide (f.num<0)=s at *
 generalize decide (g.num<0)=t at *
 have nz1:f.den/q≠0:=Nat.ne_of_gt (Nat.div_pos (Nat.le_of_dvd hb0 qb) hq0)
 have nz2:g.den/p≠0:=Nat.ne_of_gt (Nat.div_pos (Nat.le_of_dvd hd0 pd) hp0)
 refine ay _ _ (Nat.mul_ne_zero nz1 nz2) (by rw[jd];exact (c3.mul_right c1).mul_left (c2.mul_right c4)) _ ?_
 obtain⟨a',ha⟩:=pa
 obtain⟨d',hd⟩:=pd
 obtain⟨c',hc⟩:=qc
 obtain⟨b',hb⟩:=qb
 rw[ha,hc,hb,hd] at hx
 rw[ha,hc,hb,hd,Nat.mul_div_cancel_left _ hp0,Nat.mul_div_cancel_left _ hq0,Nat.mul_div_cancel_left _ hq0,Nat.mul_div_cancel_left _ hp0]
 generalize (f*g).num=n at *
 generalize (f*g).den=e at *
 have hpz:(p:Int)≠0:=by omega
 have hqz:(q:Int)≠0:=by omega
 refine Int.eq_of_mul_eq_mul_right (a:=(p*q:Int)) (Int.mul_ne_zero hpz hqz) ?_
 cases s <;> cases t <;> simp only[sgn,Int.natCast_mul,bne_self_eq_false,Bool.false_eq_true,if_false,if_true,Bool.not_false,Bool.bne_false,Bool.bne_true] at hx ⊢ <;> grind)
def am (w:World) (v:Value) (f:Rat):Prop :=
 (f.num.natAbs < 18446744073709551616∧f.den < 18446744073709551616∧v=.agg #[.bool (decide (f.num<0)),.int .u64 (f.num.natAbs:Int),.int .u64 ((f.den:Int)-1),.pointer none]) ∨
 ((18446744073709551616≤f.num.natAbs∨18446744073709551616≤f.den)∧∃ b v1 v2,v=.agg #[.bool (decide (f.num<0)),.int .u64 0,.int .u64 0,.pointer (some ⟨b,0,none⟩)]∧w.cell? ⟨b,0,none⟩=some v1∧w.cell? ⟨b,1,none⟩=some v2∧Sl .u64 w v1 (wd 18446744073709551616 f.num.natAbs)∧Sl .u64 w v2 (wd 18446744073709551616 f.den))
theorem am.but {w w':World} {v:Value} {f:Rat} (h:am w v f) (hb:But [] w w'):am w' v f:=by(
 rcases h with h|⟨h1,b,v1,v2,h2,h3,h4,h5,h6⟩
 ·exact .inl h
 ·exact .inr ⟨h1,b,v1,v2,h2,hb.ag h3 (by simp),hb.ag h4 (by simp),h5.ah hb,h6.ah hb⟩)
theorem am.over {w W:World} {v:Value} {f:Rat} (h:am w v f) {g:Nat} {s:Bool} (c0:w.cell? ⟨g,0,none⟩=some (.bool s)) (hb:But [g] w W):am W v f:=by(
 rcases h with h1|⟨h1,b,v1,v2,h2,h3,h4,h5,h6⟩
 ·exact .inl h1
 ·(
 have hbg:b≠g:=by
  rintro rfl
  obtain⟨a,cap,rfl,-⟩:=h5
  rw[c0] at h3
  simp at h3
 exact .inr ⟨h1,b,v1,v2,h2,hb.ag h3 (by simpa using hbg),hb.ag h4 (by simpa using hbg),h5.over hb c0 (by simp),h6.over hb c0 (by simp)⟩))
def Len (f:Rat) (n:Nat):Prop:=(wd 18446744073709551616 f.num.natAbs).length≤n∧(wd 18446744073709551616 f.den).length≤n
theorem den_pos (f:Rat):0<f.den:=Nat.pos_of_ne_zero f.den_nz
theorem kz (v:Value) (f:Rat) (w:World) (hf:am w v f) :
   Calls prog 62 #[v] w fun e w'=>∃ v1 v2,e=.returned (.tuple #[v1,v2])∧Sl .u64 w' v1 (wd 18446744073709551616 f.num.natAbs)∧Sl .u64 w' v2 (wd 18446744073709551616 f.den)∧But [] w w':=by(
 rcases hf with ⟨hp,hq,rfl⟩|⟨-,b,v1,v2,rfl,hc0,hc1,hs1,hs2⟩
 ·(
 have hq0:=den_pos f
 generalize decide (f.num<0)=s
 generalize f.num.natAbs=p at *
 generalize f.den=q at *
 go_enter func62,ntmps62
 go_wp2
 obtain⟨W,hW⟩:∃ W,W=w.alloc (.cells #[.bool s,.int .u64 (p:Int),.int .u64 ((q:Int)-1),.pointer none] 27):=⟨_,rfl⟩
 have c0:W.cell? ⟨w.heap.size,0,none⟩=some (.bool s):=by rw[hW];simp
 have c1:W.cell? ⟨w.heap.size,1,none⟩=some (.int .u64 (p:Int)):=by rw[hW];simp
 have c2:W.cell? ⟨w.heap.size,2,none⟩=some (.int .u64 ((q:Int)-1)):=by rw[hW];simp
 have c3:W.cell? ⟨w.heap.size,3,none⟩=some (.pointer none):=by rw[hW];simp
 have hB:But [] w W:=by rw[hW];exact (But.refl _ _).alloc _
 rw[← hW]
 clear hW
 generalize w.heap.size=g at *
 go_region_held (fun w'=>w'.cell? ⟨g,0,none⟩=some (.bool s)∧w'.cell? ⟨g,1,none⟩=some (.int .u64 (p:Int))∧w'.cell? ⟨g,2,none⟩=some (.int .u64 ((q:Int)-1))∧w'.cell? ⟨g,3,none⟩=some (.pointer none)) (go_keep) (first
  | (go_at_call_of 139 (Value.int IntKind.u64 (p:Int));refine (jc p hp _).mono ?_;rintro e w1 ⟨v1,rfl,hv1,hb1,-⟩;have B1:But [] W w1:=(by first | exact hb1 | exact (But.refl _ _).drew.trans' hb1);have k0:=B1.ag c0 (by simp);have k1:=B1.ag c1 (by simp);have k2:=B1.ag c2 (by simp);have k3:=B1.ag c3 (by simp))
  | (go_at_call 140;refine (iy s p q hq hq0 _).mono ?_;rintro e w2 ⟨rfl,hb2⟩;have B2:But [] W w2:=B1.trans' hb2;have l0:=B2.ag c0 (by simp);have l1:=B2.ag c1 (by simp);have l2:=B2.ag c2 (by simp);have l3:=B2.ag c3 (by simp))
  | (go_at_call_of 139 (Value.int IntKind.u64 (q:Int));refine (jc q hq _).mono ?_;rintro e w3 ⟨v3,rfl,hv3,hb3,-⟩;have B3:But [] W w3:=B2.trans' hb3;have m0:=B3.ag c0 (by simp);have m1:=B3.ag c1 (by simp);have m2:=B3.ag c2 (by simp);have m3:=B3.ag c3 (by simp)))
 all_goals go_wp2
 all_goals go_ret2
 all_goals exact⟨v1,v3,rfl,(hv1.ah hb2).ah hb3,hv3,hB.trans' B3⟩)
 ·(
 have hbl:b<w.heap.size:=ai hc0
 have HS:=af (And.intro hs1 hs2)
 clear hs1 hs2
 generalize decide (f.num<0)=s
 go_enter func62,ntmps62
 go_wp2
 obtain⟨W,hW⟩:∃ W,W=w.alloc (.cells #[.bool s,.int .u64 0,.int .u64 0,.pointer (some ⟨b,0,none⟩)] 27):=⟨_,rfl⟩
 have HB:Hid (But [] w W):=by show But _ _ _;rw[hW];exact (But.refl _ _).alloc _
 have c3:W.cell? ⟨w.heap.size,3,none⟩=some (.pointer (some ⟨b,0,none⟩)):=by rw[hW];simp
 have d0:=(ae HB).ag hc0 (by simp)
 have d1:=(ae HB).ag hc1 (by simp)
 rw[← hW]
 clear hW hc0 hc1
 generalize w.heap.size=g at *
 go_quiet (fail)
 go_wp2
 go_ret2
 exact⟨v1,v2,rfl,(ae HS).1.ah ((ae HB).drewN nq),(ae HS).2.ah ((ae HB).drewN nq),(ae HB).drewN nq⟩))
theorem zcy (s:Bool) (m:Nat):decide (sgn s m<0)=(s && decide (m≠0)):=by(
 cases s
 ·have h1:¬ ((m:Int)<0):=by omega
  simp[sgn,h1]
 ·(
 by_cases h0:m=0
 ·subst h0;rfl
 ·have h1:-(m:Int)<0:=by omega
  have h2:0<m:=by omega
  simp[sgn,h0,h2]))
theorem ic (s:Bool) (v1 v2:Value) (f:Rat) (w:World) (h1:Sl .u64 w v1 (wd 18446744073709551616 f.num.natAbs)) (h2:Sl .u64 w v2 (wd 18446744073709551616 f.den)) (hs:f.num=sgn s f.num.natAbs) (hl1:(wd 18446744073709551616 f.num.natAbs).length<2147483648) (hl2:(wd 18446744073709551616 f.den).length<2147483648) :
   Calls prog 169 #[.bool s,v1,v2] w fun e w'=>∃ v,e=.returned v∧am w' v f∧But [] w w':=by(
 have hsg:decide (f.num<0)=(s && decide (f.num.natAbs≠0)):=by rw[hs,jd];exact zcy _ _
 have hq0:=den_pos f
 have hle0:w.heap.size≤w.heap.size:=Nat.le_refl _
 obtain⟨W0,hW0⟩:∃ W0,W0=w.alloc (.cells #[.bool false,.int .u64 0,.int .u64 0,.pointer none] 27):=⟨_,rfl⟩
 have hB0:But [] w W0:=by rw[hW0];exact (But.refl _ _).alloc _
 have c0:W0.cell? ⟨w.heap.size,0,none⟩=some (.bool false):=by rw[hW0];simp
 have c1:W0.cell? ⟨w.heap.size,1,none⟩=some (.int .u64 0):=by rw[hW0];simp
 have c2:W0.cell? ⟨w.heap.size,2,none⟩=some (.int .u64 0):=by rw[hW0];simp
 have c3:W0.cell? ⟨w.heap.size,3,none⟩=some (.pointer none):=by rw[hW0];simp
 have fz:∀ j,W0.frozen? ⟨w.heap.size,j,none⟩=false:=by intro j;rw[hW0];simp
 have hgs:w.heap.size<W0.heap.size:=by rw[hW0];simp
 have h1':=h1.ah hB0
 have h2':=h2.ah hB0
 have HW0:=af hW0
 have HB0:=af hB0
 clear hW0 hB0 hle0
 by_cases hb:f.num.natAbs < 18446744073709551616∧f.den < 18446744073709551616
 ·(
 obtain⟨hp,hq⟩:=hb
 have HW1:=af (uy v1 f.num.natAbs hp W0 h1')
 have HW2:=af (uy v2 f.den hq W0 h2')
 have HO:=af (zbq s f.num.natAbs f.den hp hq hq0 (decide (f.num<0)) hsg W0)
 have FIN:Hid (∀ W,am W (.agg #[.bool (decide (f.num<0)),.int .u64 (f.num.natAbs:Int),.int .u64 ((f.den:Int)-1),.pointer none]) f):=fun W=>.inl ⟨hp,hq,rfl⟩
 obtain⟨a1,d1,rfl,-,-⟩:=h1
 obtain⟨a2,d2,rfl,-,-⟩:=h2
 clear hs hsg h1' h2'
 generalize (wd 18446744073709551616 f.num.natAbs).length=n1 at *
 generalize (wd 18446744073709551616 f.den).length=n2 at *
 generalize decide (f.num<0)=r at *
 generalize f.num.natAbs=p at *
 generalize hqq:f.den=q at *
 clear hqq
 go_enter func169,ntmps169
 go_wp2_with fail
 rw[← ae HW0]
 obtain⟨g,hg⟩:∃ g,g=w.heap.size:=⟨_,rfl⟩
 rw[← hg] at c0 c1 c2 c3 fz hgs
 rw[← hg]
 have HG:Hid (w.heap.size≤g):=Nat.le_of_eq hg.symm
 clear hg HW0
 refine (ae HW1).mono ?_
 rintro e w1 ⟨rfl,hw⟩
 obtain rfl:=hw.symm
 clear hw
 go_wp2_with fail
 refine (ae HW2).mono ?_
 rintro e w1 ⟨rfl,hw⟩
 obtain rfl:=hw.symm
 clear hw
 go_wp2_with fail
 refine (ae HO).mono ?_
 rintro e w1 ⟨rfl,hb1⟩
 have k0:=hb1.ag c0 (by simp)
 have k1:=hb1.ag c1 (by simp)
 have k2:=hb1.ag c2 (by simp)
 have k3:=hb1.ag c3 (by simp)
 have kf:∀ j,w1.frozen? ⟨g,j,none⟩=false:=fun j=>(hb1.frozen (p:=⟨g,j,none⟩) hgs (by simp)).trans (fz j)
 have HB1:=af ((ae HB0).trans' hb1)
 clear hb1 c0 c1 c2 c3 fz
 go_wp2
 refine bodyPost_ret (v:=.agg #[.bool r,.int .u64 (p:Int),.int .u64 ((q:Int)-1),.pointer none]) (by simp[results,results169,go_sem,k0,k1,k2,k3]) rfl ⟨_,rfl,ae FIN _,?_⟩
 exact ((((ae HB1).setCell (.inr (ae HG)) _).setCell (.inr (ae HG)) _).setCell (.inr (ae HG)) _).setCell (.inr (ae HG)) _)
 ·(
 have hbig:18446744073709551616≤f.num.natAbs∨18446744073709551616≤f.den:=by omega
 have hr:decide (f.num<0)=s:=by
  rw[hsg]
  have hn0:f.num.natAbs≠0:=by
   intro e0
   have e1:=f.reduced
   rw[e0,Nat.coprime_zero_left] at e1
   omega
  simp[hn0]
 have H1:=af h1
 have H2:=af h2
 have HWS:Hid ((f.num.natAbs < 18446744073709551616∧Calls prog 141 #[v1] W0 (fun e w'=>e=.returned (.tuple #[.int .u64 (f.num.natAbs:Int),.bool true])∧w'=W0)∧Calls prog 141 #[v2] W0 (fun e w'=>e=.returned (.tuple #[.int .u64 0,.bool false])∧w'=W0))∨(∃ (x:Nat) (t:Bool),Calls prog 141 #[v1] W0 (fun e w'=>e=.returned (.tuple #[.int .u64 0,.bool false])∧w'=W0)∧Calls prog 141 #[v2] W0 (fun e w'=>e=.returned (.tuple #[.int .u64 (x:Int),.bool t])∧w'=W0))):=by
  rcases Nat.lt_or_ge f.num.natAbs 18446744073709551616 with hp | hp
  ·exact .inl ⟨hp,uy v1 _ hp W0 h1',oq v2 _ (by omega) W0 h2' hl2⟩
  ·rcases Nat.lt_or_ge f.den 18446744073709551616 with hq | hq
   ·exact .inr ⟨f.den,true,oq v1 _ hp W0 h1' hl1,uy v2 _ hq W0 h2'⟩
   ·exact .inr ⟨0,false,oq v1 _ hp W0 h1' hl1,oq v2 _ hq W0 h2' hl2⟩
 obtain⟨a1,d1,rfl,-,-⟩:=h1
 obtain⟨a2,d2,rfl,-,-⟩:=h2
 have FIN:Hid (∀ W b v1 v2,W.cell? ⟨b,0,none⟩=some v1→W.cell? ⟨b,1,none⟩=some v2→Sl .u64 W v1 (wd 18446744073709551616 f.num.natAbs)→Sl .u64 W v2 (wd 18446744073709551616 f.den)→am W (.agg #[.bool s,.int .u64 0,.int .u64 0,.pointer (some ⟨b,0,none⟩)]) f):=fun W b v1 v2 e1 e2 e3 e4=>.inr ⟨hbig,b,v1,v2,by rw[hr],e1,e2,e3,e4⟩
 clear hs hsg h1' h2' hr hb hbig
 generalize (wd 18446744073709551616 f.num.natAbs).length=n1 at *
 generalize (wd 18446744073709551616 f.den).length=n2 at *
 rcases ae HWS with ⟨-,w1c,w2c⟩|⟨x,t,w1c,w2c⟩
 all_goals(
 have HW1:=af w1c
 have HW2:=af w2c
 clear w1c w2c HWS
 go_enter func169,ntmps169
 go_wp2_with fail
 rw[← ae HW0]
 obtain⟨g,hg⟩:∃ g,g=w.heap.size:=⟨_,rfl⟩
 rw[← hg] at c0 c1 c2 c3 fz hgs
 rw[← hg]
 have HG:Hid (w.heap.size≤g):=Nat.le_of_eq hg.symm
 clear hg HW0
 refine (ae HW1).mono ?_
 rintro e w1 ⟨rfl,hw⟩
 obtain rfl:=hw.symm
 clear hw
 go_wp2_with fail
 refine (ae HW2).mono ?_
 rintro e w1 ⟨rfl,hw⟩
 obtain rfl:=hw.symm
 clear hw
 go_wp2
 have hBf:=(((((ae HB0).setCell (p:=⟨g,0,none⟩) (.inr (ae HG)) (.bool s)).setCell (p:=⟨g,1,none⟩) (.inr (ae HG)) (.int .u64 0)).setCell (p:=⟨g,2,none⟩) (.inr (ae HG)) (.int .u64 0)).setCell (p:=⟨g,3,none⟩) (.inr (ae HG)) (.pointer (some ⟨W0.heap.size,0,none⟩))).alloc (.cells #[.slice a1 n1 d1,.slice a2 n2 d2] 179)
 refine bodyPost_ret (v:=.agg #[.bool s,.int .u64 0,.int .u64 0,.pointer (some ⟨W0.heap.size,0,none⟩)]) (by simp[results,results169,go_sem,c0,c1,c2,c3,hgs]) rfl ⟨_,rfl,ae FIN _ W0.heap.size (.slice a1 n1 d1) (.slice a2 n2 d2) ?_ ?_ ((ae H1).ah hBf) ((ae H2).ah hBf),hBf⟩
 ·have:=World.cell?_alloc_new ((((W0.setCell ⟨g,0,none⟩ (.bool s)).setCell ⟨g,1,none⟩ (.int .u64 0)).setCell ⟨g,2,none⟩ (.int .u64 0)).setCell ⟨g,3,none⟩ (.pointer (some ⟨W0.heap.size,0,none⟩))) #[.slice a1 n1 d1,.slice a2 n2 d2] 179 0
  simpa using this
 ·have:=World.cell?_alloc_new ((((W0.setCell ⟨g,0,none⟩ (.bool s)).setCell ⟨g,1,none⟩ (.int .u64 0)).setCell ⟨g,2,none⟩ (.int .u64 0)).setCell ⟨g,3,none⟩ (.pointer (some ⟨W0.heap.size,0,none⟩))) #[.slice a1 n1 d1,.slice a2 n2 d2] 179 1
  simpa using this)))
def P4o (w:World) (b o:Nat) (s:Bool) (x y:Int) (p:Option Addr):Prop:=w.cell? ⟨b,o,none⟩=some (.bool s)∧w.cell? ⟨b,o+1,none⟩=some (.int .u64 x)∧w.cell? ⟨b,o+2,none⟩=some (.int .u64 y)∧w.cell? ⟨b,o+3,none⟩=some (.pointer p)
theorem P4o.but {w w':World} {b o:Nat} {s:Bool} {x y:Int} {p:Option Addr} {l:List Nat} (h:P4o w b o s x y p) (hb:But l w w') (hn:b ∉ l):P4o w' b o s x y p:=⟨hb.ag h.1 hn,hb.ag h.2.1 hn,hb.ag h.2.2.1 hn,hb.ag h.2.2.2 hn⟩
def zce (w:World) (b o:Nat) (f:Rat):Prop:=∃ s x y p,P4o w b o s x y p∧am w (.agg #[.bool s,.int .u64 x,.int .u64 y,.pointer p]) f
theorem zce.but {w w':World} {b o:Nat} {f:Rat} (h:zce w b o f) (hb:But [] w w'):zce w' b o f:=by
 obtain⟨s,x,y,p,h1,h2⟩:=h
 exact⟨s,x,y,p,h1.but hb (by simp),h2.but hb⟩
theorem Sl.beside {k:IntKind} {w w':World} {v:Value} {xs:List Nat} {l:List Nat} (h:Sl k w v xs) (hb:But l w w') (hc:∀ g ∈ l,∃ i s,w.cell? ⟨g,i,none⟩=some (.bool s)):Sl k w' v xs:=by(
 obtain⟨a,cap,rfl,hcp,h,hi⟩:=h
 rcases Nat.eq_zero_or_pos xs.length with h0 | h0
 ·exact⟨a,cap,rfl,hcp,fun i hi=>by omega,fun b off e h1=>by omega⟩
 ·(
 refine Sl.but (xs:=xs) ⟨a,cap,rfl,hcp,h,hi⟩ hb (fun b off cap' n e hm=>?_)
 simp only[Value.slice.injEq] at e
 obtain⟨rfl,-,-⟩:=e
 obtain⟨i,s,hs⟩:=hc b hm
 exact (hi _ _ rfl h0).ne hs (by simp) rfl))
theorem am.beside {w W:World} {v:Value} {f:Rat} {l:List Nat} (h:am w v f) (hb:But l w W) (hc:∀ g ∈ l,∃ s,w.cell? ⟨g,0,none⟩=some (.bool s)):am W v f:=by(
 rcases h with h1|⟨h1,b,v1,v2,h2,h3,h4,h5,h6⟩
 ·exact .inl h1
 ·(
 have hbg:b ∉ l:=fun hm=>by
  obtain⟨s,hs⟩:=hc b hm
  obtain⟨a,cap,rfl,-⟩:=h5
  rw[hs] at h3
  simp at h3
 exact .inr ⟨h1,b,v1,v2,h2,hb.ag h3 hbg,hb.ag h4 hbg,h5.beside hb (fun g hg=>⟨0,hc g hg⟩),h6.beside hb (fun g hg=>⟨0,hc g hg⟩)⟩))
theorem zce.beside {w w':World} {b o:Nat} {f:Rat} {l:List Nat} (h:zce w b o f) (hb:But l w w') (hn:b ∉ l) (hc:∀ g ∈ l,∃ s,w.cell? ⟨g,0,none⟩=some (.bool s)):zce w' b o f:=by
 obtain⟨s,x,y,p,h1,h2⟩:=h
 exact⟨s,x,y,p,h1.but hb hn,h2.beside hb hc⟩
def aq (w:World) (v:Value) (fs:List Rat):Prop:=∃ a cap,v=.slice a fs.length cap∧fs.length≤cap∧∀ i f,fs[i]? = some f→∃ b off,a=some ⟨b,off,none⟩∧zce w b (off+i*4) f
theorem aq.nil (w:World):aq w (.slice none 0 0) []:=⟨none,0,rfl,Nat.le_refl _,fun i f h=>by simp at h⟩
theorem aq.but {w w':World} {v:Value} {fs:List Rat} (h:aq w v fs) (hb:But [] w w'):aq w' v fs:=by(
 obtain⟨a,cap,e,hc,h⟩:=h
 refine⟨a,cap,e,hc,fun i f hf=>?_⟩
 obtain⟨b,off,e1,h1⟩:=h i f hf
 exact⟨b,off,e1,h1.but hb⟩)
theorem aq.open {w:World} {v:Value} {fs:List Rat} (h:aq w v fs) :
   (fs=[]∧∃ a cap,v=.slice a 0 cap)∨(0<fs.length∧∃ b off cap,v=.slice (some ⟨b,off,none⟩) fs.length cap∧fs.length≤cap∧∀ i f,fs[i]? = some f→zce w b (off+i*4) f):=by(
 obtain⟨a,cap,rfl,hc,h⟩:=h
 rcases Nat.eq_zero_or_pos fs.length with h0 | h0
 ·exact .inl ⟨List.length_eq_zero_iff.1 h0,a,cap,by rw[h0]⟩
 ·(
 obtain⟨b,off,rfl,-⟩:=h 0 fs[0] (List.getElem?_eq_getElem h0)
 refine .inr ⟨h0,b,off,cap,rfl,hc,fun i f hf=>?_⟩
 obtain⟨b',off',e,h2⟩:=h i f hf
 simp only[Option.some.injEq,Addr.mk.injEq] at e
 obtain⟨rfl,rfl,_⟩:=e
 exact h2))
def zad (vs:List Value):List Value:=vs.flatMap fun v=>v.cells.toList
structure zvg (w:World) (base:Nat) (e:TypeId) (v:Value) (fs:List Rat) (vs:List Value):Prop where
 own:w.ownsRow base e 4 v fs.length (zad vs)
 len:vs.length=fs.length
 val:∀ (i:Nat) (f:Rat),fs[i]? = some f→∃ s x y p,vs[i]? = some (Value.agg #[.bool s,.int .u64 x,.int .u64 y,.pointer p])∧am w (.agg #[.bool s,.int .u64 x,.int .u64 y,.pointer p]) f
theorem zkn:∀ (vs:List Value),(∀ v ∈ vs,v.cells.size=4)→∀ (i k:Nat) (v:Value),vs[i]? = some v→k<4→(zad vs)[4*i+k]? = v.cells[k]?
 | [],_,i,k,v,e,_=>by simp at e
 | u::vs,h,0,k,v,e,hk=>by
  have hu:=h u (by simp)
  simp only[List.getElem?_cons_zero,Option.some.injEq] at e
  subst e
  unfold zad
  rw[List.flatMap_cons,Nat.mul_zero,Nat.zero_add,List.getElem?_append_left (by rw[Array.length_toList,hu];exact hk)]
  simp
 | u::vs,h,i+1,k,v,e,hk=>by
  have hu:=h u (by simp)
  have ih:=zkn vs (fun x hx=>h x (by simp[hx])) i k v (by simpa using e) hk
  unfold zad at ih ⊢
  rw[List.flatMap_cons,List.getElem?_append_right (by rw[Array.length_toList,hu];omega),Array.length_toList,hu,show 4*(i+1)+k-4=4*i+k from by omega]
  exact ih
theorem zmc (vs us:List Value):zad (vs++us)=zad vs++zad us:=by unfold zad;rw[List.flatMap_append]
theorem zvg.zrz {w:World} {base:Nat} {e:TypeId} {v:Value} {fs:List Rat} {vs:List Value} (h:zvg w base e v fs vs):aq w v fs:=by(
 have h4:∀ u ∈ vs,u.cells.size=4:=fun u hu=>by
  obtain⟨i,hi,rfl⟩:=List.mem_iff_getElem.1 hu
  obtain⟨s,x,y,p,e,-⟩:=h.val i (fs[i]'(by rw[← h.len];exact hi)) (List.getElem?_eq_getElem (by rw[← h.len];exact hi))
  rw[List.getElem?_eq_getElem hi] at e
  rw[Option.some.inj e]
  rfl
 obtain⟨hl,⟨rfl,h0⟩|⟨g,cap,cur,rfl,hg,hb,hn,hm,hs,ht⟩⟩:=id h.own
 ·have:fs=[]:=List.length_eq_zero_iff.1 h0
  subst this
  exact aq.nil w
 ·(
 refine⟨_,cap,rfl,hn,fun i f hf=>⟨g,0,rfl,?_⟩⟩
 obtain⟨s,x,y,p,e1,e2⟩:=h.val i f hf
 have cell:∀ k,k<4→w.cell? ⟨g,0+i*4+k,none⟩=(#[Value.bool s,.int .u64 x,.int .u64 y,.pointer p]:Array Value)[k]?:=fun k hk=>by
  have h1:=zkn vs h4 i k _ e1 hk
  have h2:=h.own.cells (g:=g) rfl
  have hlt:k<(#[Value.bool s,.int .u64 x,.int .u64 y,.pointer p]:Array Value).size:=hk
  have h3:=h2 (4*i+k) _ (h1.trans (Array.getElem?_eq_getElem hlt))
  have h5:(⟨g,0,none⟩:Addr).add (4*i+k)=⟨g,0+i*4+k,none⟩:=by
   by_cases hz:4*i+k=0
   ·simp only[Addr.add,hz,if_true,Addr.mk.injEq,true_and,and_true];omega
   ·simp only[Addr.add,hz,if_false,Addr.mk.injEq,true_and,and_true];omega
  rw[h5] at h3
  rw[h3]
  exact (Array.getElem?_eq_getElem hlt).symm
 exact⟨s,x,y,p,⟨cell 0 (by omega),cell 1 (by omega),cell 2 (by omega),cell 3 (by omega)⟩,e2⟩))
theorem zlr (s t:Bool) (v1 v2:Value) (m n:Nat) (w:World) (h1:Sl .u64 w v1 (wd 18446744073709551616 m)) (h2:Sl .u64 w v2 (wd 18446744073709551616 n)) (hl1:(wd 18446744073709551616 m).length<1073741824) (hl2:(wd 18446744073709551616 n).length<1073741824) :
   Calls prog 175 #[.bool s,v1,.bool t,v2] w fun e w'=>∃ (r:Bool) (v:Value) (M:Nat),e=.returned (.tuple #[.bool r,v])∧Sl .u64 w' v (wd 18446744073709551616 M)∧sgn s m+sgn t n=sgn r M∧M≤m+n∧But [] w w':=by(
 have HA:=af (ig v1 v2 m n w h1 h2 hl1 hl2)
 have HC:=af (xu v1 v2 m n w h1 h2 (by omega) (by omega))
 have H1:=af h1
 have H2:=af h2
 have HS1:=af (fun (W:World) (a:Sl .u64 W v1 (wd 18446744073709551616 m)) (b:Sl .u64 W v2 (wd 18446744073709551616 n)) (h:n≤m)=>zax v1 v2 m n W a b hl1 h)
 have HS2:=af (fun (W:World) (a:Sl .u64 W v1 (wd 18446744073709551616 m)) (b:Sl .u64 W v2 (wd 18446744073709551616 n)) (h:m≤n)=>zax v2 v1 n m W b a hl2 h)
 obtain⟨a1,c1,rfl,-,-⟩:=h1
 obtain⟨a2,c2,rfl,-,-⟩:=h2
 generalize (wd 18446744073709551616 m).length=l1 at *
 generalize (wd 18446744073709551616 n).length=l2 at *
 by_cases hst:s=t
 ·(
 subst hst
 have hb:(s==s)=true:=by simp
 have HE:Hid (sgn s m+sgn s n=sgn s (m+n)):=by show _=_;cases s <;> simp[sgn] <;> omega
 go_enter func175,ntmps175
 go_wp2_with fail
 refine (ae HA).mono ?_
 rintro e w1 ⟨v,rfl,hv,hb1⟩
 have R:=af (And.intro hv hb1)
 clear hv hb1
 go_wp2
 go_ret2
 exact⟨s,v,m+n,rfl,(ae R).1,ae HE,Nat.le_refl _,(ae R).2⟩)
 ·(
 have hb:(s==t)=false:=by simp[hst]
 have ht:t=!s:=by cases s <;> cases t <;> simp_all
 rcases Nat.lt_or_ge m n with hlt | hge
 ·(
 rw[o8 hlt] at HC
 have HE:Hid (sgn s m+sgn t n=sgn t (n-m)):=by
  show _=_
  rw[ht]
  cases s <;> simp[sgn] <;> omega
 clear ht
 go_enter func175,ntmps175
 go_wp2_with fail
 refine (ae HC).mono ?_
 rintro e w1 ⟨rfl,q,rfl⟩
 go_wp2_with fail
 refine (ae HS2 _ (by exact ae H1) (by exact ae H2) (Nat.le_of_lt hlt)).mono ?_
 rintro e w2 ⟨v,rfl,hv,hb1⟩
 have R:=af (And.intro hv (((But.refl [] _).drewN q).trans' hb1))
 clear hv hb1
 go_wp2
 go_ret2
 exact⟨t,v,n-m,rfl,(ae R).1,ae HE,by omega,(ae R).2⟩)
 ·(
 have hc0:=zan hge
 have HE:Hid (sgn s m+sgn t n=sgn s (m-n)):=by
  show _=_
  rw[ht]
  cases s <;> simp[sgn] <;> omega
 clear ht
 generalize zq m n=r at *
 have hr:decide (0≤r)=true:=by simp;omega
 go_enter func175,ntmps175
 go_wp2_with fail
 refine (ae HC).mono ?_
 rintro e w1 ⟨rfl,q,rfl⟩
 go_wp2_with fail
 refine (ae HS1 _ (by exact ae H1) (by exact ae H2) hge).mono ?_
 rintro e w2 ⟨v,rfl,hv,hb1⟩
 have R:=af (And.intro hv (((But.refl [] _).drewN q).trans' hb1))
 clear hv hb1
 go_wp2
 go_ret2
 exact⟨s,v,m-n,rfl,(ae R).1,ae HE,by omega,(ae R).2⟩)))
theorem o5 (v:Value) (f:Rat) (w:World) (hf:am w v f) :
   Calls prog 99 #[v] w fun e w'=>e=.returned (.int .i64 f.num.sign)∧But [] w w':=by(
 rcases hf with ⟨hp,hq,rfl⟩|⟨hbig,b,v1,v2,rfl,-,-,-,-⟩
 ·(
 by_cases hn:f.num<0
 ·(
 have e:f.num.sign=-1:=Int.sign_eq_neg_one_of_neg hn
 rw[e]
 have hd:decide (f.num<0)=true:=decide_eq_true hn
 rw[hd]
 generalize f.num.natAbs=p at *
 generalize f.den=q at *
 clear hn hd e
 go_enter func99,ntmps99
 go_wp2
 go_ret
 exact⟨rfl,(But.refl _ _).alloc _⟩)
 ·(
 have hd:decide (f.num<0)=false:=decide_eq_false hn
 rw[hd]
 rcases Nat.eq_zero_or_pos f.num.natAbs with h0 | h0
 ·(
 have e:f.num.sign=0:=by rw[Int.sign_eq_zero_iff_zero];omega
 rw[e,h0]
 generalize f.den=q at *
 clear hn hd e h0 hp
 go_enter func99,ntmps99
 go_wp2
 go_ret
 exact⟨rfl,(But.refl _ _).alloc _⟩)
 ·(
 have e:f.num.sign=1:=Int.sign_eq_one_of_pos (by omega)
 rw[e]
 generalize f.num.natAbs=p at *
 generalize f.den=q at *
 have n0:((p:Int)==0)=false:=beq_eq_false_iff_ne.2 (by omega)
 clear hn hd e
 go_enter func99,ntmps99
 go_wp2
 go_ret
 exact⟨rfl,(But.refl _ _).alloc _⟩)))
 ·(
 have hn0:f.num≠0:=by
  intro e0
  have e1:=f.reduced
  rw[e0,Int.natAbs_zero,Nat.coprime_zero_left] at e1
  rw[e0] at hbig
  simp at hbig
  omega
 by_cases hn:f.num<0
 ·(
 have e:f.num.sign=-1:=Int.sign_eq_neg_one_of_neg hn
 have hd:decide (f.num<0)=true:=decide_eq_true hn
 rw[e,hd]
 clear hn hd e hbig hn0
 go_enter func99,ntmps99
 go_wp2
 go_ret
 exact⟨rfl,(But.refl _ _).alloc _⟩)
 ·(
 have e:f.num.sign=1:=Int.sign_eq_one_of_pos (by omega)
 have hd:decide (f.num<0)=false:=decide_eq_false hn
 rw[e,hd]
 clear hn hd e hbig hn0
 go_enter func99,ntmps99
 go_wp2
 go_ret
 exact⟨rfl,(But.refl _ _).alloc _⟩)))
theorem qcm {w:World} {f:Rat} (r:Bool) (hr:r=decide (-f.num<0)) (v:Value) (h:(f.num.natAbs < 18446744073709551616∧f.den < 18446744073709551616∧v=.agg #[.bool r,.int .u64 (f.num.natAbs:Int),.int .u64 ((f.den:Int)-1),.pointer none])∨((18446744073709551616≤f.num.natAbs∨18446744073709551616≤f.den)∧∃ b v1 v2,v=.agg #[.bool r,.int .u64 0,.int .u64 0,.pointer (some ⟨b,0,none⟩)]∧w.cell? ⟨b,0,none⟩=some v1∧w.cell? ⟨b,1,none⟩=some v2∧Sl .u64 w v1 (wd 18446744073709551616 f.num.natAbs)∧Sl .u64 w v2 (wd 18446744073709551616 f.den))):am w v (-f):=by(
 unfold am
 rw[Rat.neg_num,Rat.neg_den,Int.natAbs_neg,← hr]
 exact h)
theorem zsd (v:Value) (f:Rat) (w:World) (hf:am w v f) :
   Calls prog 126 #[v] w fun e w'=>∃ v',e=.returned v'∧am w' v' (-f)∧But [] w w':=by(
 have HSg:=af (fun W (h:am W v f)=>o5 v f W h)
 have HF:=af hf
 obtain⟨s,x,y,p,rfl,hs,hsh⟩:∃ s x y p,v=.agg #[.bool s,.int .u64 x,.int .u64 y,.pointer p]∧s=decide (f.num<0)∧(∀ (W:World) (r:Bool),r=decide (-f.num<0)→But [] w W→am W (.agg #[.bool r,.int .u64 x,.int .u64 y,.pointer p]) (-f)):=by
  rcases hf with ⟨hp,hq,rfl⟩|⟨hbig,b,v1,v2,rfl,k0,k1,k2,k3⟩
  ·exact⟨_,_,_,_,rfl,rfl,fun W r hr _=>qcm r hr _ (.inl ⟨hp,hq,rfl⟩)⟩
  ·exact⟨_,_,_,_,rfl,rfl,fun W r hr hb=>qcm r hr _ (.inr ⟨hbig,b,v1,v2,rfl,hb.ag k0 (by simp),hb.ag k1 (by simp),k2.ah hb,k3.ah hb⟩)⟩
 have HH:=af hsh
 clear hsh hf
 by_cases hn:f.num<0
 ·(
 have e:s=true:=by rw[hs];exact decide_eq_true hn
 subst e
 have hr:Hid (false=decide (-f.num<0)):=by show _=_;rw[decide_eq_false];omega
 clear hs hn HSg HF
 go_enter func126,ntmps126
 go_wp2
 have hB:=((But.refl [] w).alloc (.cells #[.bool false,.int .u64 x,.int .u64 y,.pointer p] 27)).alloc (.cells #[.bool false,.int .u64 x,.int .u64 y,.pointer p] 27)
 exact bodyPost_ret (v:=.agg #[.bool false,.int .u64 x,.int .u64 y,.pointer p]) (by simp[results,results126,go_sem]) rfl ⟨_,rfl,ae HH _ false (ae hr) hB,hB⟩)
 ·(
 have e:s=false:=by rw[hs];exact decide_eq_false hn
 subst e
 obtain⟨r,hr⟩:∃ r,r=decide (-f.num<0):=⟨_,rfl⟩
 obtain⟨z,hz⟩:∃ z,z=f.num.sign:=⟨_,rfl⟩
 have hzr:(z != 0)=r:=by
  rw[hr,hz]
  by_cases h0:f.num=0
  ·rw[h0];rfl
  ·have h1:f.num.sign=1:=Int.sign_eq_one_of_pos (by omega)
   rw[h1]
   rw[decide_eq_true (by omega:-f.num<0)]
   rfl
 rw[← hz] at HSg
 obtain⟨W,hW⟩:∃ W,W=(w.alloc (.cells #[.bool false,.int .u64 x,.int .u64 y,.pointer p] 27)).alloc (.cells #[.bool false,.int .u64 0,.int .u64 0,.pointer none] 27):=⟨_,rfl⟩
 have hB:But [] w W:=by rw[hW];exact ((But.refl [] w).alloc _).alloc _
 have c0:W.cell? ⟨w.heap.size,0,none⟩=some (.bool false):=by rw[hW];simp
 have c1:W.cell? ⟨w.heap.size,1,none⟩=some (.int .u64 x):=by rw[hW];simp
 have c2:W.cell? ⟨w.heap.size,2,none⟩=some (.int .u64 y):=by rw[hW];simp
 have c3:W.cell? ⟨w.heap.size,3,none⟩=some (.pointer p):=by rw[hW];simp
 have d0:W.cell? ⟨w.heap.size+1,0,none⟩=some (.bool false):=by rw[hW];simp
 have d1:W.cell? ⟨w.heap.size+1,1,none⟩=some (.int .u64 0):=by rw[hW];simp
 have d2:W.cell? ⟨w.heap.size+1,2,none⟩=some (.int .u64 0):=by rw[hW];simp
 have d3:W.cell? ⟨w.heap.size+1,3,none⟩=some (.pointer none):=by rw[hW];simp
 have fz:∀ b j,w.heap.size≤b→W.frozen? ⟨b,j,none⟩=false:=by
  intro b j hb
  rw[hW]
  rcases Nat.lt_or_ge b (w.heap.size+2) with h1 | h1
  ·have:b=w.heap.size∨b=w.heap.size+1:=by omega
   rcases this with rfl|rfl <;> simp
  ·simp[World.frozen?,Array.getElem?_eq_none (show ((w.alloc (.cells #[.bool false,.int .u64 x,.int .u64 y,.pointer p] 27)).alloc (.cells #[.bool false,.int .u64 0,.int .u64 0,.pointer none] 27)).heap.size≤b by simp;omega)]
 have HW:=af hW
 have HS2:=af (ae HSg W ((ae HF).but hB))
 have HR:=af hr
 have HB:=af hB
 clear hW hs hn hr hz HSg HF hB
 go_enter func126,ntmps126
 go_wp2_with fail
 rw[← ae HW]
 refine (ae HS2).mono ?_
 rintro e w1 ⟨rfl,hb1⟩
 have k0:=hb1.ag c0 (by simp)
 have k1:=hb1.ag c1 (by simp)
 have k2:=hb1.ag c2 (by simp)
 have k3:=hb1.ag c3 (by simp)
 have l0:=hb1.ag d0 (by simp)
 have l1:=hb1.ag d1 (by simp)
 have l2:=hb1.ag d2 (by simp)
 have l3:=hb1.ag d3 (by simp)
 have hg1:w.heap.size<W.heap.size:=ai c0
 have hg2:w.heap.size+1<W.heap.size:=ai d0
 have f1:∀ j,w1.frozen? ⟨w.heap.size,j,none⟩=false:=fun j=>(hb1.frozen (p:=⟨w.heap.size,j,none⟩) hg1 (by simp)).trans (fz _ j (Nat.le_refl _))
 have f2:∀ j,w1.frozen? ⟨w.heap.size+1,j,none⟩=false:=fun j=>(hb1.frozen (p:=⟨w.heap.size+1,j,none⟩) hg2 (by simp)).trans (fz _ j (by omega))
 have HB1:Hid (But [] w w1):=(ae HB).trans' hb1
 clear hb1 c0 c1 c2 c3 d0 d1 d2 d3 fz HW HS2 hg1 hg2
 obtain⟨ga,hga⟩:∃ ga,ga=w.heap.size:=⟨_,rfl⟩
 obtain⟨gb,hgb⟩:∃ gb,gb=w.heap.size+1:=⟨_,rfl⟩
 rw[← hga] at k0 k1 k2 k3 f1
 rw[← hgb] at l0 l1 l2 l3 f2
 rw[← hgb,← hga]
 have hab:ga≠gb:=by omega
 have ha:Hid (w.heap.size≤ga):=Nat.le_of_eq hga.symm
 have hb:Hid (w.heap.size≤gb):=by show _≤_;omega
 clear hga hgb
 go_wp2
 have hBf:=((((((ae HB1).setCell (p:=⟨ga,0,none⟩) (.inr (ae ha)) (.bool r)).setCell (p:=⟨gb,0,none⟩) (.inr (ae hb)) (.bool r)).setCell (p:=⟨gb,1,none⟩) (.inr (ae hb)) (.int .u64 x)).setCell (p:=⟨gb,2,none⟩) (.inr (ae hb)) (.int .u64 y)).setCell (p:=⟨gb,3,none⟩) (.inr (ae hb)) (.pointer p))
 exact bodyPost_ret (v:=.agg #[.bool r,.int .u64 x,.int .u64 y,.pointer p]) (by simp[results,results126,go_sem,l0,l1,l2,l3]) rfl ⟨_,rfl,ae HH _ r (ae HR) hBf,hBf⟩))
structure zct (base:Act) (H:(Nat→Bool)→World→Prop) (C:Nat→World→Value→Prop) (T:Nat→Nat) (m:Nat) (d:Nat→Bool) (a:Act) (w:World):Prop where
 mem:H d w
 size:a.tmps.size=base.tmps.size
 defers:a.defers=base.defers
 rest:∀ t,(∀ j,j<m→t≠T j)→a.tmps[t]? = base.tmps[t]?
 has:∀ i,i<m→d i=true→C i w (a.eval (.tmp (T i)))
theorem zct.next {base:Act} {H:(Nat→Bool)→World→Prop} {C:Nat→World→Value→Prop} {T:Nat→Nat} {m:Nat} {d:Nat→Bool} {a:Act} {w:World} (h:zct base H C T m d a w)
  (hinj:∀ i j,i<m→j<m→T i=T j→i=j) (hT:∀ i,i<m→T i<base.tmps.size)
  (i:Nat) (hi:i<m) (v:Value) (w':World) (hH:H (came d i) w') (hC:∀ j,j<m→d j=true→∀ u,C j w u→C j w' u) (hv:C i w' v):zct base H C T m (came d i) (a.put (some (T i)) v) w' where
 mem:=hH
 size:=by rw[zbi];exact h.size
 defers:=h.defers
 rest:=fun t ht=>by rw[zft,if_neg (fun e=>ht i hi e.symm)];exact h.rest t ht
 has:=fun j hj hd=>by
  by_cases e:j=i
  ·subst e
   rw[at_eq a (T j) v (by rw[h.size];exact hT j hj)]
   exact hv
  ·rw[jo d e] at hd
   rw[zwv a (T i) (T j) v (fun e2=>e (hinj j i hj hi e2))]
   exact hC j hj hd _ (h.has j hj hd)
theorem zct.eval {base:Act} {H:(Nat→Bool)→World→Prop} {C:Nat→World→Value→Prop} {T:Nat→Nat} {m:Nat} {d:Nat→Bool} {a:Act} {w:World} (h:zct base H C T m d a w) (t:Nat) (ht:∀ j,j<m→t≠T j):a.eval (.tmp t)=base.eval (.tmp t):=by
 show a.tmps.getD t undef=base.tmps.getD t undef
 simp only[Array.getD_eq_getD_getElem?,h.rest t ht]
theorem zct.puts {base:Act} {H:(Nat→Bool)→World→Prop} {C:Nat→World→Value→Prop} {T:Nat→Nat} {m:Nat} {d:Nat→Bool} {a:Act} {w:World} (h:zct base H C T m d a w) (hT:∀ i,i<m→T i<base.tmps.size) (V:Nat→Value) (hV:∀ i,i<m→a.eval (.tmp (T i))=V i):a=bi base ((List.range m).map fun i=>(T i,V i)):=by(
 refine zer _ base a h.defers h.size (fun p hp=>?_) (fun t ht=>?_)
 ·obtain⟨i,hi,rfl⟩:=List.mem_map.1 hp
  have hi':=List.mem_range.1 hi
  exact zjh (hV i hi') (by rw[h.size];exact hT i hi')
 ·refine h.rest t (fun j hj e=>?_)
  exact ht (T j,V j) (List.mem_map.2 ⟨j,List.mem_range.2 hj,rfl⟩) e)
theorem zdy {P:Program} {id:Nat} {ops:Array Oper} {Q:Exit→Act→World→Prop} {base:Act} {W0:World} (hm:P.follows .mixedOrders=true)
   (hlow:∀ i o,ops[i]? = some o→∀ e ∈ o.after,Region.binds .any e=true→e.on<i)
   (hg:∀ (i:Nat) (o:Oper),ops[i]? = some o→o.guard=none)
   (H:(Nat→Bool)→World→Prop) (C:Nat→World→Value→Prop) (T:Nat→Nat) (m:Nat) (hsz:ops.size=m+1)
   (hinj:∀ i j,i<m→j<m→T i=T j→i=j) (hT:∀ i,i<m→T i<base.tmps.size) (h0:H (fun _=>false) W0.drew)
   (hall:∀ i,i<m→∃ o,ops[m]? = some o∧∃ e ∈ o.after,Region.binds .any e=true∧e.on=i)
   (hstep:∀ (d:Nat→Bool) (i:Nat) (o:Oper) (a:Act) (w:World) (K:Act→World→Prop),i<m→ops[i]? = some o→d i=false→H d w→(∀ t,(∀ j,j<m→t≠T j)→a.eval (.tmp t)=base.eval (.tmp t))→(∀ e ∈ o.after,Region.binds .any e=true→d e.on=true∧C e.on w (a.eval (.tmp (T e.on))))→(∀ v w',H (came d i) w'→(∀ j,j<m→d j=true→∀ u,C j w u→C j w' u)→C i w' v→K (a.put (some (T i)) v) w')→o.wp P a w K Q)
   (Fin:Act→World→Prop)
   (hlast:∀ (d:Nat→Bool) (o:Oper) (a:Act) (w:World) (K:Act→World→Prop),ops[m]? = some o→(∀ i,i<m→d i=true)→zct base H C T m d a w→(∀ a' w',Fin a' w'→K a' w')→o.wp P a w K Q)
   (hend:∀ a w,Fin a w→Q .normal a w) :
   (Code.region id ops true).wp P Q base W0:=by(
 have wpo:∀ i o a w (K:Act→World→Prop),ops[i]? = some o→o.wp P a w K Q→wpOp P ops Q i K a w:=fun i o a w K ho h=>by
  unfold wpOp
  simp only[ho,Region.wanted,hg i o ho,if_true]
  exact .inl h
 refine zdb hm hlow (fun d a w=>if d m=true then (Fin a w∧∀ i,i<m→d i=true) else zct base H C T m d a w) ?_ ?_ ?_
 ·simp only[Bool.false_eq_true,if_false]
  exact⟨h0,rfl,rfl,fun _ _=>rfl,fun _ _ h=>by simp at h⟩
 ·intro d a w hd h
  rw[if_pos (hd m (by omega))] at h
  exact hend a w h.1
 ·(
 intro d i o a w ho hdi hdep h
 refine wpo i o a w _ ho ?_
 have hi:i<m+1:=by rw[← hsz];exact (Array.getElem?_eq_some_iff.1 ho).1
 by_cases e:i=m
 ·(
 subst e
 rw[if_neg (by rw[hdi];simp)] at h
 have hd:∀ j,j<i→d j=true:=fun j hj=>by
  obtain⟨o',ho',ed,he,hb,rfl⟩:=hall j hj
  rw[ho] at ho'
  obtain rfl:=Option.some.inj ho'
  exact hdep ed he hb
 refine hlast d o a w _ ho hd h (fun a' w' hf=>?_)
 rw[if_pos (mh d i)]
 exact⟨hf,fun j hj=>by rw[jo d (by omega)];exact hd j hj⟩)
 ·(
 have him:i<m:=by omega
 by_cases hdm:d m=true
 ·exfalso
  rw[if_pos hdm] at h
  rw[h.2 i him] at hdi
  simp at hdi
 ·rw[if_neg hdm] at h
  refine hstep d i o a w _ him ho hdi h.mem (fun t ht=>h.eval t ht) (fun ed he hb=>⟨hdep ed he hb,h.has _ (by have:=hlow i o ho ed he hb;omega) (hdep ed he hb)⟩) (fun v w' hH hC hv=>?_)
  rw[if_neg (by rw[jo d (Ne.symm e)];exact hdm)]
  exact h.next hinj hT i him v w' hH hC hv)))
def Down (ops:Array Oper) (d:Nat→Bool):Prop:=∀ i o,ops[i]? = some o→d i=true→∀ e ∈ o.after,Region.binds .any e=true→d e.on=true
structure Run (W:World) (ops:Array Oper) (base:Act) (C:Nat→World→Value→Prop) (T:Nat→Nat) (d:Nat→Bool) (a:Act) (w:World):Prop where
 down:Down ops d
 but:But [] W w
 size:a.tmps.size=base.tmps.size
 defers:a.defers=base.defers
 rest:∀ t,(∀ j,j<ops.size→d j=true→t≠T j)→a.tmps[t]? = base.tmps[t]?
 has:∀ i,i<ops.size→d i=true→C i w (a.eval (.tmp (T i)))
theorem Run.eval {W:World} {ops:Array Oper} {base:Act} {C:Nat→World→Value→Prop} {T:Nat→Nat} {d:Nat→Bool} {a:Act} {w:World} (h:Run W ops base C T d a w) (t:Nat) (ht:∀ j,j<ops.size→d j=true→t≠T j):a.eval (.tmp t)=base.eval (.tmp t):=by
 show a.tmps.getD t undef=base.tmps.getD t undef
 simp only[Array.getD_eq_getD_getElem?,h.rest t ht]
theorem Run.next {W:World} {ops:Array Oper} {base:Act} {C:Nat→World→Value→Prop} {T:Nat→Nat} {d:Nat→Bool} {a:Act} {w:World} (h:Run W ops base C T d a w)
   (hinj:∀ i j,i<ops.size→j<ops.size→T i=T j→i=j) (hT:∀ i,i<ops.size→T i<base.tmps.size) (hC:∀ i w w' v,i<ops.size→C i w v→But [] w w'→C i w' v)
   (i:Nat) (o:Oper) (ho:ops[i]? = some o) (hdep:∀ e ∈ o.after,Region.binds .any e=true→d e.on=true) (v:Value) (w':World) (hb:But [] w w') (hv:C i w' v):Run W ops base C T (came d i) (a.put (some (T i)) v) w':=by(
 have hi:i<ops.size:=(Array.getElem?_eq_some_iff.1 ho).1
 refine⟨fun j oj hj hd e he hbi=>?_,h.but.trans' hb,by rw[zbi];exact h.size,h.defers,fun t ht=>?_,fun j hj hd=>?_⟩
 ·(
 by_cases e1:e.on=i
 ·rw[e1];exact mh d i
 ·(
 rw[jo d e1]
 by_cases e2:j=i
 ·subst e2
  rw[ho] at hj
  obtain rfl:=Option.some.inj hj
  exact hdep e he hbi
 ·rw[jo d e2] at hd
  exact h.down j oj hj hd e he hbi))
 ·(
 rw[zft,if_neg (fun e=>ht i hi (mh d i) e.symm)]
 exact h.rest t (fun j hj hd=>by
  by_cases e:j=i
  ·subst e;exact ht j hj (mh d j)
  ·exact ht j hj (by rw[jo d e];exact hd)))
 ·(
 by_cases e:j=i
 ·subst e
  rw[at_eq a (T j) v (by rw[h.size];exact hT j hj)]
  exact hv
 ·rw[jo d e] at hd
  rw[zwv a (T i) (T j) v (fun e2=>e (hinj j i hj hi e2))]
  exact hC j w w' _ hj (h.has j hj hd) hb))
def zkl (ops:Array Oper) (T:Nat→Nat):Bool:=(List.range ops.size).all fun i=>match ops[i]? with
 | some o=>(o.dst==some (T i)) && (match o.guard with | none=>true | some (j,_)=>decide (j<ops.size) && o.after.any fun e=>Region.binds .any e && e.on==j)
 | none=>true
theorem qbm {ops:Array Oper} {T:Nat→Nat} (h:zkl ops T=true):∀ (i:Nat) (o:Oper),ops[i]? = some o→o.dst=some (T i)∧∀ j want,o.guard=some (j,want)→j<ops.size∧∃ e ∈ o.after,Region.binds .any e=true∧e.on=j:=fun i o ho=>by
 have hi:i<ops.size:=(Array.getElem?_eq_some_iff.1 ho).1
 unfold zkl at h
 rw[List.all_eq_true] at h
 have h1:=h i (List.mem_range.2 hi)
 simp only[ho,Bool.and_eq_true,beq_iff_eq] at h1
 refine⟨h1.1,fun j want hg=>?_⟩
 have h2:=h1.2
 rw[hg] at h2
 simp only[Bool.and_eq_true,decide_eq_true_eq] at h2
 refine⟨h2.1,?_⟩
 have h3:=h2.2
 rw[Array.any_eq_true] at h3
 obtain⟨k,hk,h4⟩:=h3
 simp only[Bool.and_eq_true,beq_iff_eq] at h4
 exact⟨o.after[k],Array.getElem_mem hk,h4.1,h4.2⟩
theorem zhg {P:Program} {id:Nat} {ops:Array Oper} {Q:Exit→Act→World→Prop} {base:Act} {W0:World} (hm:P.follows .mixedOrders=true)
   (hlow:∀ i o,ops[i]? = some o→∀ e ∈ o.after,Region.binds .any e=true→e.on<i)
   (C:Nat→World→Value→Prop) (T:Nat→Nat) (hpl:zkl ops T=true)
   (hgd:∀ (i:Nat) (o:Oper) (j:Nat) (want:Bool),ops[i]? = some o→o.guard=some (j,want)→∀ w v,C j w v→v=.bool want)
   (hinj:∀ i j,i<ops.size→j<ops.size→T i=T j→i=j) (hT:∀ i,i<ops.size→T i<base.tmps.size) (hC:∀ i w w' v,i<ops.size→C i w v→But [] w w'→C i w' v)
   (hstep:∀ (i:Nat) (o:Oper) (a:Act) (w:World) (K:Act→World→Prop),ops[i]? = some o→But [] W0.drew w→(∀ t,(∀ j,j<ops.size→t=T j→∃ oj,ops[j]? = some oj∧∃ e ∈ oj.after,Region.binds .any e=true∧e.on=i)→a.eval (.tmp t)=base.eval (.tmp t))→(∀ e ∈ o.after,Region.binds .any e=true→C e.on w (a.eval (.tmp (T e.on))))→(∀ v w',But [] w w'→C i w' v→K (a.put o.dst v) w')→o.wp P a w K Q)
   (hend:∀ a w,Run W0.drew ops base C T (fun _=>true) a w→Q .normal a w) :
   (Code.region id ops true).wp P Q base W0:=by(
 have hp:=qbm hpl
 refine zdb hm hlow (fun d a w=>Run W0.drew ops base C T d a w) ?_ ?_ ?_
 ·exact⟨fun _ _ _ h=>by simp at h,But.refl _ _,rfl,rfl,fun _ _=>rfl,fun _ _ h=>by simp at h⟩
 ·intro d a w hd h
  refine hend a w ⟨fun _ _ _ _ _ _ _=>rfl,h.but,h.size,h.defers,fun t ht=>h.rest t (fun j hj _=>ht j hj rfl),fun i hi _=>h.has i hi (hd i hi)⟩
 ·(
 intro d i o a w ho hdi hdep h
 have hi:i<ops.size:=(Array.getElem?_eq_some_iff.1 ho).1
 obtain⟨hdst,hg⟩:=hp i o ho
 have hw:Region.wanted o (yielded ops a.tmps)=true:=by
  unfold Region.wanted
  cases hgo:o.guard with
  | none=>rfl
  | some jw =>
   obtain⟨j,want⟩:=jw
   obtain⟨hj,e,he,hbi,hon⟩:=hg j want hgo
   have hdj:d j=true:=by rw[← hon];exact hdep e he hbi
   have hv:=hgd i o j want ho hgo w _ (h.has j hj hdj)
   have hoj:=Array.getElem?_eq_getElem hj
   have hdj2:=(hp j _ hoj).1
   have hsl:=zjh hv (by rw[h.size];exact hT j hj)
   show (yielded ops a.tmps j==some want)=true
   unfold yielded
   rw[hoj,Option.bind_some,hdj2,Option.bind_some,hsl]
   simp
 unfold wpOp
 simp only[ho,hw,if_true]
 refine .inl (hstep i o a w _ ho h.but (fun t ht=>h.eval t (fun j hj hd e=>?_)) (fun e he hb=>h.has _ (by have:=hlow i o ho e he hb;omega) (hdep e he hb)) (fun v w' hb hv=>?_))
 ·obtain⟨oj,hoj,ed,hed,hbi,hon⟩:=ht j hj e
  have:=h.down j oj hoj hd ed hed hbi
  rw[hon,hdi] at this
  simp at this
 ·rw[hdst]
  exact h.next hinj hT hC i o ho hdep v w' hb hv))
theorem Run.puts {W:World} {ops:Array Oper} {base:Act} {C:Nat→World→Value→Prop} {T:Nat→Nat} {a:Act} {w:World} (h:Run W ops base C T (fun _=>true) a w) (hT:∀ i,i<ops.size→T i<base.tmps.size) (V:Nat→Value) (hV:∀ i,i<ops.size→a.eval (.tmp (T i))=V i):a=bi base ((List.range ops.size).map fun i=>(T i,V i)):=by(
 refine zer _ base a h.defers h.size (fun p hp=>?_) (fun t ht=>?_)
 ·obtain⟨i,hi,rfl⟩:=List.mem_map.1 hp
  have hi':=List.mem_range.1 hi
  exact zjh (hV i hi') (by rw[h.size];exact hT i hi')
 ·refine h.rest t (fun j hj _ e=>?_)
  exact ht (T j,V j) (List.mem_map.2 ⟨j,List.mem_range.2 hj,rfl⟩) e)
def zbz (f:Rat):Nat→Rat
 | 0=>1
 | n+1=>zbz f n*f
theorem zfh (f:Rat):∀ n,(zbz f n).num=f.num^n∧(zbz f n).den=f.den^n
 | 0=>⟨by rw[Int.pow_zero];rfl,by rw[Nat.pow_zero];rfl⟩
 | n+1=>by
  obtain⟨h1,h2⟩:=zfh f n
  have hd:0<f.den:=Nat.pos_of_ne_zero f.den_nz
  have hco:Nat.Coprime f.num.natAbs f.den:=f.reduced
  have hc:=sj (zbz f n) f
  rw[h1,h2] at hc
  have hq:((zbz f n*f).num*((f.den^(n+1):Nat):Int)=f.num^(n+1)*((zbz f n*f).den:Int)):=by
   rw[Nat.pow_succ,Int.pow_succ]
   exact hc
  exact ay (f.num^(n+1)) (f.den^(n+1)) (Nat.pos_iff_ne_zero.1 (Nat.pow_pos hd)) (by rw[Int.natAbs_pow];exact Nat.Coprime.pow _ _ hco) _ hq
theorem zke (f:Rat):∀ n,zbz f n=f^n
 | 0=>by rw[Rat.pow_zero];rfl
 | n+1=>by
  rw[Rat.pow_succ,← zke f n]
  first
   | rfl
   | (show f*zbz f n=zbz f n*f;exact Rat.mul_comm _ _)
def zwu (ops:Array Oper):Bool:=(List.range ops.size).all fun i=>match ops[i]? with
 | some o=>o.guard.isNone
 | none=>true
theorem zwt {ops:Array Oper} (h:zwu ops=true):∀ (i:Nat) (o:Oper),ops[i]? = some o→o.guard=none:=fun i o ho=>by
 have hi:i<ops.size:=(Array.getElem?_eq_some_iff.1 ho).1
 unfold zwu at h
 rw[List.all_eq_true] at h
 have h1:=h i (List.mem_range.2 hi)
 simp only[ho] at h1
 simpa using h1
theorem qdo {ops:Array Oper} {ps:List (Nat × Nat)} (h:zfm ops ps=true) {i:Nat} {o:Oper} (ho:ops[i]? = some o) (R:Nat→Prop) (hdep:∀ e ∈ o.after,Region.binds .any e=true→R e.on) (j:Nat) (hij:(i,j) ∈ ps):R j:=by(
 obtain⟨o',ho',e,he,hb,rfl⟩:=zdk h i j hij
 rw[ho] at ho'
 obtain rfl:=Option.some.inj ho'
 exact hdep e he hb)
theorem zu {P:Program} {Q:Exit→Act→World→Prop} {K:Act→World→Prop} {a:Act} {w w':World} {o:Oper} {v:Value} (hr:(execOp a.eval o).run P w=.ok (.value v) w') (h:K (a.put o.dst v) w'):o.wp P a w K Q:=by(
 unfold Oper.wp
 rw[hr]
 exact h)
theorem xw {P:Program} {Q:Exit→Act→World→Prop} {K:Act→World→Prop} {a:Act} {w:World} {o:Oper} {f:FuncId} {args:Array Value} (hr:(execOp a.eval o).run P w=.ok (.enter f args) w) {R:World→Value→Prop} (hc:Calls P f args w fun e w'=>∃ v,e=.returned v∧R w' v) (h:∀ v w',R w' v→K (a.put o.dst v) w'):o.wp P a w K Q:=by(
 unfold Oper.wp
 rw[hr]
 refine hc.mono ?_
 rintro e w' ⟨v,rfl,hv⟩
 exact h v w' hv)
def Closed (ops:Array Oper) (d:Nat→Bool):Prop:=∀ i o,ops[i]? = some o→d i=true→∀ e ∈ o.after,Region.binds .any e=true→d e.on=true
theorem Closed.dep {ops:Array Oper} {d:Nat→Bool} (h:Closed ops d) {ps:List (Nat × Nat)} (hp:zfm ops ps=true) {i j:Nat} (hij:(i,j) ∈ ps) (hd:d i=true):d j=true:=by
 obtain⟨o,ho,e,he,hb,rfl⟩:=zdk hp i j hij
 exact h i o ho hd e he hb
theorem Closed.not {ops:Array Oper} {d:Nat→Bool} (h:Closed ops d) {ps:List (Nat × Nat)} (hp:zfm ops ps=true) {i j:Nat} (hij:(i,j) ∈ ps) (hd:d j=false):d i=false:=by(
 cases e:d i with
 | false=>rfl
 | true=>rw[h.dep hp hij e] at hd;simp at hd)
theorem Closed.next {ops:Array Oper} {d:Nat→Bool} (h:Closed ops d) {i:Nat} {o:Oper} (ho:ops[i]? = some o) (hdep:∀ e ∈ o.after,Region.binds .any e=true→d e.on=true):Closed ops (came d i):=fun j oj hj hd e he hbi=>by
 by_cases e1:e.on=i
 ·rw[e1];exact mh d i
 ·rw[jo d e1]
  by_cases e2:j=i
  ·subst e2
   rw[ho] at hj
   obtain rfl:=Option.some.inj hj
   exact hdep e he hbi
  ·rw[jo d e2] at hd
   exact h j oj hj hd e he hbi
structure qjr {α:Type} (ops:Array Oper) (base:Act) (H:α→(Nat→Bool)→World→Prop) (V:α→Nat→Value) (T:Nat→Nat) (m:Nat) (d:Nat→Bool) (a:Act) (w:World) (N:α):Prop where
 down:Closed ops d
 mem:H N d w
 size:a.tmps.size=base.tmps.size
 defers:a.defers=base.defers
 rest:∀ t,(∀ j,j<m→t≠T j)→a.tmps[t]? = base.tmps[t]?
 has:∀ i,i<m→d i=true→a.eval (.tmp (T i))=V N i
theorem zfy {P:Program} {id:Nat} {ops:Array Oper} {Q:Exit→Act→World→Prop} {base:Act} {W0:World} (hm:P.follows .mixedOrders=true)
   (hlow:∀ i o,ops[i]? = some o→∀ e ∈ o.after,Region.binds .any e=true→e.on<i)
   (hg:∀ (i:Nat) (o:Oper),ops[i]? = some o→o.guard=none)
   {α:Type} (H:α→(Nat→Bool)→World→Prop) (V:α→Nat→Value) (T:Nat→Nat) (m:Nat) (hsz:ops.size=m)
   (hinj:∀ i j,i<m→j<m→T i=T j→i=j) (hT:∀ i,i<m→T i<base.tmps.size) (N0:α) (h0:H N0 (fun _=>false) W0.drew)
   (hstep:∀ (N:α) (d:Nat→Bool) (i:Nat) (o:Oper) (a:Act) (w:World) (K:Act→World→Prop),i<m→ops[i]? = some o→d i=false→Closed ops d→H N d w→(∀ t,(∀ j,j<m→t≠T j)→a.eval (.tmp t)=base.eval (.tmp t))→(∀ e ∈ o.after,Region.binds .any e=true→d e.on=true∧a.eval (.tmp (T e.on))=V N e.on)→(∀ N' v w',v=V N' i→(∀ j,j<m→d j=true→V N' j=V N j)→H N' (came d i) w'→K (a.put (some (T i)) v) w')→o.wp P a w K Q)
   (hend:∀ N d w,(∀ i,i<m→d i=true)→H N d w→Q .normal (bi base ((List.range m).map fun i=>(T i,V N i))) w) :
   (Code.region id ops true).wp P Q base W0:=by(
 have wpo:∀ i o a w (K:Act→World→Prop),ops[i]? = some o→o.wp P a w K Q→wpOp P ops Q i K a w:=fun i o a w K ho h=>by
  unfold wpOp
  simp only[ho,Region.wanted,hg i o ho,if_true]
  exact .inl h
 refine zdb hm hlow (fun d a w=>∃ N,qjr ops base H V T m d a w N) ?_ ?_ ?_
 ·exact⟨N0,fun _ _ _ h=>by simp at h,h0,rfl,rfl,fun _ _=>rfl,fun _ _ h=>by simp at h⟩
 ·(
 rintro d a w hd ⟨N,h⟩
 have ea:a=bi base ((List.range m).map fun i=>(T i,V N i)):=by
  refine zer _ base a h.defers h.size (fun p hp=>?_) (fun t ht=>?_)
  ·obtain⟨i,hi,rfl⟩:=List.mem_map.1 hp
   have hi':=List.mem_range.1 hi
   exact zjh (h.has i hi' (hd i (by omega))) (by rw[h.size];exact hT i hi')
  ·refine h.rest t (fun j hj e=>?_)
   exact ht (T j,V N j) (List.mem_map.2 ⟨j,List.mem_range.2 hj,rfl⟩) e
 rw[ea]
 exact hend N d w (fun i hi=>hd i (by omega)) h.mem)
 ·(
 rintro d i o a w ho hdi hdep ⟨N,h⟩
 refine wpo i o a w _ ho ?_
 have hi:i<m:=by rw[← hsz];exact (Array.getElem?_eq_some_iff.1 ho).1
 refine hstep N d i o a w _ hi ho hdi h.down h.mem (fun t ht=>zxs (h.rest t ht)) (fun ed he hb=>⟨hdep ed he hb,h.has _ (by have:=hlow i o ho ed he hb;omega) (hdep ed he hb)⟩) ?_
 rintro N' v w' rfl hV hH
 refine⟨N',h.down.next ho hdep,hH,by rw[zbi];exact h.size,h.defers,fun t ht=>?_,fun j hj hd=>?_⟩
 ·rw[zft,if_neg (fun e=>ht i hi e.symm)];exact h.rest t ht
 ·(
 by_cases e:j=i
 ·subst e
  exact at_eq a (T j) _ (by rw[h.size];exact hT j hj)
 ·rw[jo d e] at hd
  rw[zwv a (T i) (T j) _ (fun e2=>e (hinj j i hj hi e2)),h.has j hj hd]
  exact (hV j hj hd).symm)))
end Go.Proofs.YtagmkkiagjmimaaGreatDoor
