/- Out of HS: what needs no more than these -/
import Derived.Test.YtffghofheeleeaaGreatDoorKFW
import Derived.Test.YtffghofheeleeaaGreatDoorKHD
namespace Go.Proofs.YtffghofheeleeaaGreatDoor
open Go.Proofs.Tryz
open Go.RowKit
set_option maxHeartbeats 4000000
set_option maxRecDepth 100000
theorem lenU_mono {a b:Nat} (h:a≤b):(wd 4294967296 a).length≤(wd 4294967296 b).length:=aj (by omega) _ _ (Nat.lt_of_le_of_lt h (ak (by omega) b _ (Nat.le_refl _)))
theorem lenU_add (a b n:Nat) (ha:(wd 4294967296 a).length≤n) (hb:(wd 4294967296 b).length≤n):(wd 4294967296 (a+b)).length≤n+1:=by
 refine aj (by omega) _ _ ?_
 have h1:=ak (B:=4294967296) (by omega) a n ha
 have h2:=ak (B:=4294967296) (by omega) b n hb
 rw[Nat.pow_succ]
 omega
theorem zeg (x y:Int) (n:Nat) (hx:(wd 4294967296 x.natAbs).length≤n) (hy:(wd 4294967296 y.natAbs).length≤n):(wd 4294967296 (x+y).natAbs).length≤n+1 :=
 Nat.le_trans (lenU_mono (Int.natAbs_add_le x y)) (lenU_add _ _ n hx hy)
theorem zef (x y:Int) (n:Nat) (hx:(wd 4294967296 x.natAbs).length≤n) (hy:(wd 4294967296 y.natAbs).length≤n):(wd 4294967296 (x-y).natAbs).length≤n+1:=by
 rw[Int.sub_eq_add_neg]
 exact zeg x (-y) n hx (by rw[Int.natAbs_neg];exact hy)
theorem lenU_of (f:Rat) (p q:Int) (n:Nat) (hq:q≠0) (h:f.num*q=p*(f.den:Int)) (hp:(wd 4294967296 p.natAbs).length≤n) (hl:(wd 4294967296 q.natAbs).length≤n):qg f n:=by
 obtain⟨e1,e2⟩:=zcm p q hq f h
 constructor
 ·have h1:f.num.natAbs=p.natAbs/Nat.gcd p.natAbs q.natAbs:=by
   rw[e1,redN_abs]
   split <;> simp
  rw[h1]
  exact Nat.le_trans (lenU_mono (Nat.div_le_self _ _)) hp
 ·have h2:f.den=q.natAbs/Nat.gcd p.natAbs q.natAbs:=by
   have:=e2
   rw[zdb] at this
   omega
  rw[h2]
  exact Nat.le_trans (lenU_mono (Nat.div_le_self _ _)) hl
theorem qg.mono {f:Rat} {m n:Nat} (h:qg f m) (hmn:m≤n):qg f n:=⟨Nat.le_trans h.1 hmn,Nat.le_trans h.2 hmn⟩
theorem cross_addU (f g:Rat):(f+g).num*((f.den:Int)*(g.den:Int))=(f.num*(g.den:Int)+g.num*(f.den:Int))*((f+g).den:Int):=by
 have h:=cross_add f g
 grind
theorem cross_subU (f g:Rat):(f-g).num*((f.den:Int)*(g.den:Int))=(f.num*(g.den:Int)-g.num*(f.den:Int))*((f-g).den:Int):=by
 have h:=cross_add f (-g)
 rw[← Rat.sub_eq_add_neg] at h
 simp only[Rat.neg_num,Rat.neg_den] at h
 grind
theorem qp (x y:Int) (m n:Nat) (hx:(wd 4294967296 x.natAbs).length≤m) (hy:(wd 4294967296 y.natAbs).length≤n):(wd 4294967296 (x*y).natAbs).length≤m+n:=by
 rw[Int.natAbs_mul]
 have:=zfo x.natAbs y.natAbs
 omega
theorem qg.mul {f g:Rat} {m n:Nat} (hf:qg f m) (hg:qg g n):qg (f*g) (m+n):=by
 have hfd:0<f.den:=Nat.pos_of_ne_zero f.den_nz
 have hgd:0<g.den:=Nat.pos_of_ne_zero g.den_nz
 have hc:=zdq f g
 rw[Int.natCast_mul] at hc
 exact lenU_of _ _ _ _ (Int.mul_ne_zero (by omega) (by omega)) hc (qp _ _ _ _ hf.1 hg.1) (qp _ _ _ _ (by rw[Int.natAbs_natCast];exact hf.2) (by rw[Int.natAbs_natCast];exact hg.2))
theorem qg.sub {f g:Rat} {m n:Nat} (hf:qg f m) (hg:qg g n):qg (f-g) (m+n+1):=by
 have hfd:0<f.den:=Nat.pos_of_ne_zero f.den_nz
 have hgd:0<g.den:=Nat.pos_of_ne_zero g.den_nz
 have d1:(wd 4294967296 ((f.den:Nat):Int).natAbs).length≤m:=by rw[Int.natAbs_natCast];exact hf.2
 have d2:(wd 4294967296 ((g.den:Nat):Int).natAbs).length≤n:=by rw[Int.natAbs_natCast];exact hg.2
 refine lenU_of _ _ _ _ (Int.mul_ne_zero (by omega) (by omega)) (cross_subU f g) (zef _ _ _ (qp _ _ _ _ hf.1 d2) ?_) (Nat.le_succ_of_le (qp _ _ _ _ d1 d2))
 rw[Nat.add_comm m n]
 exact qp _ _ _ _ hg.1 d1
theorem qg.add {f g:Rat} {m n:Nat} (hf:qg f m) (hg:qg g n):qg (f+g) (m+n+1):=by
 have hfd:0<f.den:=Nat.pos_of_ne_zero f.den_nz
 have hgd:0<g.den:=Nat.pos_of_ne_zero g.den_nz
 have d1:(wd 4294967296 ((f.den:Nat):Int).natAbs).length≤m:=by rw[Int.natAbs_natCast];exact hf.2
 have d2:(wd 4294967296 ((g.den:Nat):Int).natAbs).length≤n:=by rw[Int.natAbs_natCast];exact hg.2
 refine lenU_of _ _ _ _ (Int.mul_ne_zero (by omega) (by omega)) (cross_addU f g) (zeg _ _ _ (qp _ _ _ _ hf.1 d2) ?_) (Nat.le_succ_of_le (qp _ _ _ _ d1 d2))
 rw[Nat.add_comm m n]
 exact qp _ _ _ _ hg.1 d1
theorem refAdd_any (xb yb:Nat) (f g:Rat) (w:World) (hx:za w xb f) (hy:za w yb g) (lf:qg f 2000000) (lg:qg g 2000000) :
  Calls prog 51 #[.pointer (some ⟨xb,0,none⟩),.pointer (some ⟨yb,0,none⟩)] w fun e w'=>∃ zb,e=.returned (.pointer (some ⟨zb,0,none⟩))∧But [] w w'∧za w' zb (f+g)∧w.heap.size≤zb:=by
 have hfd:0<f.den:=Nat.pos_of_ne_zero f.den_nz
 have hgd:0<g.den:=Nat.pos_of_ne_zero g.den_nz
 have hQ0:(f.den:Int)*(g.den:Int)≠0:=Int.mul_ne_zero (by omega) (by omega)
 obtain⟨e1,e2⟩:=zcm (f.num*(g.den:Int)+g.num*(f.den:Int)) ((f.den:Int)*(g.den:Int)) hQ0 (f+g) (cross_addU f g)
 obtain⟨W0,hW0⟩:∃ W0,W0=w.alloc (.cells #[.bool false,.slice none 0 0,.bool false,.slice none 0 0] 103):=⟨_,rfl⟩
 have hs:=zat w 103
 have hbw:But [] w W0:=by rw[hW0];exact (But.refl _ _).alloc _
 rw[← hW0] at hs
 obtain⟨lf1,lf2⟩:=lf
 obtain⟨lg1,lg2⟩:=lg
 have d1:(wd 4294967296 ((f.den:Nat):Int).natAbs).length≤2000000:=by rw[Int.natAbs_natCast];exact lf2
 have d2:(wd 4294967296 ((g.den:Nat):Int).natAbs).length≤2000000:=by rw[Int.natAbs_natCast];exact lg2
 have p1:=qp f.num (g.den:Int) _ _ lf1 d2
 have p2:=qp g.num (f.den:Int) _ _ lg1 d1
 have p3:=qp (f.den:Int) (g.den:Int) _ _ d1 d2
 have p4:=zeg _ _ _ p1 p2
 have MU:=af (ratAddU_any w.heap.size xb yb f.num g.num f.den g.den W0 hs.1 hs.2 (zt.but hx hbw) (zt.but hy hbw) hfd hgd (by omega) (by omega) (by omega) (by omega) _ _ _ _ rfl rfl rfl rfl (by omega) (by omega) (by omega) (by omega) hQ0 (f+g).num ((f+g).den:Int) e1 e2)
 have HW0:=af hW0
 have HBW:=af hbw
 clear hW0 hbw hs e1 e2 hQ0 p1 p2 p3 p4 d1 d2 lf1 lf2 lg1 lg2 hx hy hfd hgd
 go_enter func51,ntmps51
 go_wp2_with fail
 rw[← ae HW0]
 refine (ae MU).mono ?_
 rintro e w1 ⟨rfl,h1,h2⟩
 have FIN:=af (And.intro ((ae HBW).trans h1 (by simp)) h2)
 clear h1 h2 MU
 go_wp2
 go_ret
 exact⟨w.heap.size,rfl,(ae FIN).1,(ae FIN).2,Nat.le_refl _⟩
theorem refSub_any (xb yb:Nat) (f g:Rat) (w:World) (hx:za w xb f) (hy:za w yb g) (lf:qg f 2000000) (lg:qg g 2000000) :
  Calls prog 47 #[.pointer (some ⟨xb,0,none⟩),.pointer (some ⟨yb,0,none⟩)] w fun e w'=>∃ zb,e=.returned (.pointer (some ⟨zb,0,none⟩))∧But [] w w'∧za w' zb (f-g)∧w.heap.size≤zb:=by
 have hfd:0<f.den:=Nat.pos_of_ne_zero f.den_nz
 have hgd:0<g.den:=Nat.pos_of_ne_zero g.den_nz
 have hQ0:(f.den:Int)*(g.den:Int)≠0:=Int.mul_ne_zero (by omega) (by omega)
 obtain⟨e1,e2⟩:=zcm (f.num*(g.den:Int)-g.num*(f.den:Int)) ((f.den:Int)*(g.den:Int)) hQ0 (f-g) (cross_subU f g)
 obtain⟨W0,hW0⟩:∃ W0,W0=w.alloc (.cells #[.bool false,.slice none 0 0,.bool false,.slice none 0 0] 103):=⟨_,rfl⟩
 have hs:=zat w 103
 have hbw:But [] w W0:=by rw[hW0];exact (But.refl _ _).alloc _
 rw[← hW0] at hs
 obtain⟨lf1,lf2⟩:=lf
 obtain⟨lg1,lg2⟩:=lg
 have d1:(wd 4294967296 ((f.den:Nat):Int).natAbs).length≤2000000:=by rw[Int.natAbs_natCast];exact lf2
 have d2:(wd 4294967296 ((g.den:Nat):Int).natAbs).length≤2000000:=by rw[Int.natAbs_natCast];exact lg2
 have p1:=qp f.num (g.den:Int) _ _ lf1 d2
 have p2:=qp g.num (f.den:Int) _ _ lg1 d1
 have p3:=qp (f.den:Int) (g.den:Int) _ _ d1 d2
 have p4:=zef _ _ _ p1 p2
 have MU:=af (ratSubU_any w.heap.size xb yb f.num g.num f.den g.den W0 hs.1 hs.2 (zt.but hx hbw) (zt.but hy hbw) hfd hgd (by omega) (by omega) (by omega) (by omega) _ _ _ _ rfl rfl rfl rfl (by omega) (by omega) (by omega) (by omega) hQ0 (f-g).num ((f-g).den:Int) e1 e2)
 have HW0:=af hW0
 have HBW:=af hbw
 clear hW0 hbw hs e1 e2 hQ0 p1 p2 p3 p4 d1 d2 lf1 lf2 lg1 lg2 hx hy hfd hgd
 go_enter func47,ntmps47
 go_wp2_with fail
 rw[← ae HW0]
 refine (ae MU).mono ?_
 rintro e w1 ⟨rfl,h1,h2⟩
 have FIN:=af (And.intro ((ae HBW).trans h1 (by simp)) h2)
 clear h1 h2 MU
 go_wp2
 go_ret
 exact⟨w.heap.size,rfl,(ae FIN).1,(ae FIN).2,Nat.le_refl _⟩
theorem den_times (x:Rat):x*((x.den:Int):Rat)=((x.num:Int):Rat):=by
 obtain⟨i1,i2⟩:=bj (x.den:Int)
 obtain⟨j1,j2⟩:=bj x.num
 have h:=zdq x ((x.den:Int):Rat)
 rw[i1,i2,Nat.mul_one] at h
 have hd:=den_pos x
 obtain⟨e1,e2⟩:=zbt x.num 1 (by omega) (by simp) (x*((x.den:Int):Rat)) (by
  refine Int.eq_of_mul_eq_mul_right (show (x.den:Int)≠0 by omega) ?_
  grind)
 exact Rat.ext (by rw[e1,j1]) (by rw[e2,j2])
theorem int_ne (z:Int) (h:z≠0):((z:Int):Rat)≠0:=fun e=>h (by
 have:=congrArg Rat.num e
 rwa [(bj z).1] at this)
def qf (q:Int × Int):Rat:=((q.1:Int):Rat)/(((if q.2=0 then 1 else q.2):Int):Rat)
theorem qf_of (f:Rat) (q:Int × Int) (h:f.num*(if q.2=0 then 1 else q.2)=q.1*f.den):f=qf q:=by
 unfold qf
 have hy:(if q.2=0 then (1:Int) else q.2)≠0:=by split <;> omega
 generalize (if q.2=0 then (1:Int) else q.2)=y at *
 have h1:=den_times f
 have h2:((f.num*y:Int):Rat)=((q.1*(f.den:Int):Int):Rat):=by rw[h]
 rw[Rat.intCast_mul,Rat.intCast_mul] at h2
 have hd:=int_ne (f.den:Int) (by have:=den_pos f;omega)
 have hy':=int_ne y hy
 generalize ((y:Int):Rat)=Y at *
 generalize ((f.den:Int):Rat)=D at *
 generalize ((f.num:Int):Rat)=M at *
 generalize ((q.1:Int):Rat)=X at *
 rw[← h1] at h2
 grind
def Fits (q:Int × Int):Prop:=-9223372036854775808≤q.1∧q.1<9223372036854775808∧-9223372036854775808≤q.2∧q.2<9223372036854775808
theorem plainF_at (q:Int × Int) (h:Fits q):∃ (r:Bool) (x y:Int),Len (qf q) 1∧(∀ W,am W (.agg #[.bool r,.int .u64 x,.int .u64 y,.pointer none]) (qf q))∧∀ W,Calls prog 7 #[.agg #[.int .i64 q.1,.int .i64 q.2]] W fun e w'=>e=.returned (.agg #[.bool r,.int .u64 x,.int .u64 y,.pointer none])∧But [] W w':=by
 obtain⟨f,r,x,y,h1,h2,h3,h4⟩:=plainF_any q.1 q.2 h.1 h.2.1 h.2.2.1 h.2.2.2
 have e:=qf_of f q h2
 subst e
 exact⟨r,x,y,h1,h3,h4⟩
def QsAt (w:World) (v:Value) (qs:List (Int × Int)):Prop:=∃ a cap,v=.slice a qs.length cap∧qs.length≤cap∧∀ i q,qs[i]? = some q→∃ b off,a=some ⟨b,off,none⟩∧w.cell? ⟨b,off+i*2,none⟩=some (.int .i64 q.1)∧w.cell? ⟨b,off+i*2+1,none⟩=some (.int .i64 q.2)
theorem QsAt.but {w w':World} {v:Value} {qs:List (Int × Int)} (h:QsAt w v qs) (hb:But [] w w'):QsAt w' v qs:=by
 obtain⟨a,cap,e,hc,h⟩:=h
 refine⟨a,cap,e,hc,fun i q hq=>?_⟩
 obtain⟨b,off,e1,h1,h2⟩:=h i q hq
 exact⟨b,off,e1,hb.ag h1 (by simp),hb.ag h2 (by simp)⟩
set_option linter.unusedVariables false
theorem ownsRow_form {w:World} {base:Nat} {e:TypeId} {size:Nat} {v:Value} {n:Nat} {xs:List Value} (h:w.ownsRow base e size v n xs):∃ a c,v=.slice a n c:=by
 rcases h.2 with ⟨rfl,h0⟩|⟨g,cap,cur,rfl,-⟩
 ·exact⟨none,0,by rw[h0]⟩
 ·exact⟨_,_,rfl⟩
theorem but_of_grown {w0 w w':World} {base:Nat} {e:TypeId} {size:Nat} {v:Value} {n:Nat} {xs:List Value} (h:But [] w0 w) (ho:w.ownsRow base e size v n xs) (hb:w0.heap.size≤base) (hg:w.grownBy w' v.ownBlock):But [] w0 w' :=
 ⟨hg.os.trans h.os,hg.tape.trans h.tape,hg.output.trans h.output,Nat.le_trans h.size hg.size,fun k hk _=>by
  rw[hg.block k (Nat.lt_of_lt_of_le hk h.size) (fun e=>by have:=(ho.lt k e.symm).1;omega)]
  exact h.block k hk (by simp)⟩
theorem ownsRow_but {w w':World} {base:Nat} {e:TypeId} {size:Nat} {v:Value} {n:Nat} {xs:List Value} (h:w.ownsRow base e size v n xs) (hb:But [] w w'):w'.ownsRow base e size v n xs :=
 h.kept (row:=none) ⟨hb.os,hb.tape,hb.output,hb.size,fun k hk _=>hb.block k hk (by simp)⟩ (by
  by_cases h0:v.ownBlock=none
  ·exact .inl h0
  ·exact .inr h0)
theorem zgr {w:World} {b0 b1:Nat} {e0 e1:TypeId} {s0 s1:Nat} {u v:Value} {n m:Nat} {xs ys:List Value} (h0:w.ownsRow b0 e0 s0 u n xs) (h1:w.ownsRow b1 e1 s1 v m ys) (hne:e0≠e1):u.ownBlock=none∨u.ownBlock≠v.ownBlock:=by
 rcases h0.2 with ⟨rfl,-⟩|⟨g,cap,cur,rfl,-,hg,-⟩
 ·exact .inl rfl
 ·rcases h1.2 with ⟨rfl,-⟩|⟨g',cap',cur',rfl,-,hg',-⟩
  ·exact .inr (by simp[Value.ownBlock])
  ·refine .inr (fun e=>hne ?_)
   simp only[Value.ownBlock,Option.some.injEq] at e
   subst e
   rw[hg] at hg'
   simp only[Option.some.injEq,Obj.cells.injEq] at hg'
   exact hg'.2.1
def NoRat (u:Value):Prop:=(∀ s,u≠.bool s)∧∀ n:Int,u≠.int .u32 n
theorem zh.overU {w w':World} {b o g:Nat} {z:Int} {u:Value} (h:zh w b o z) (hb:But [g] w w') (hn:b≠g) (hc:w.cell? ⟨g,0,none⟩=some u) (hu:NoRat u):zh w' b o z:=by
 obtain⟨h0,v,h1,h2⟩:=h
 exact⟨hb.ag h0 (by simpa using hn),v,hb.ag h1 (by simpa using hn),h2.over hb hc (fun n e=>hu.2 n e)⟩
theorem za.overU {w w':World} {b g:Nat} {f:Rat} {u:Value} (h:za w b f) (hb:But [g] w w') (hc:w.cell? ⟨g,0,none⟩=some u) (hu:NoRat u):za w' b f:=by
 have hn:b≠g:=fun e=>by
  subst e
  have h1:=h.up.1
  rw[hc] at h1
  exact hu.1 _ (Option.some.inj h1)
 exact⟨h.up.overU hb hn hc hu,h.low.overU hb hn hc hu,h.sa.but hb (by simpa using hn),h.sb.but hb (by simpa using hn)⟩
theorem noRat_ptr (q:Option Addr):NoRat (.pointer q):=⟨fun s e=>by simp at e,fun n e=>by simp at e⟩
def j4 (w:World) (b:Nat):Prop:=zh w b 0 0∧w.cell? ⟨b,2,none⟩=some (.bool false)∧w.cell? ⟨b,3,none⟩=some (.slice none 0 0)
theorem j4.but {w w':World} {b:Nat} (h:j4 w b) (hb:But [] w w'):j4 w' b:=⟨h.1.but hb,hb.ag h.2.1 (by simp),hb.ag h.2.2 (by simp)⟩
theorem j4.lt {w:World} {b:Nat} (h:j4 w b):b<w.heap.size:=h.1.lt
theorem blank_new (w:World) (t:TypeId):j4 (w.alloc (.cells #[.bool false,.slice none 0 0,.bool false,.slice none 0 0] t)) w.heap.size:=by
 refine⟨⟨by simp,.slice none 0 0,by simp,?_⟩,by simp,by simp⟩
 have h0:wd 4294967296 (0:Int).natAbs=[]:=by rw[yw (by omega)];rfl
 rw[h0]
 exact⟨none,0,rfl,Nat.le_refl _,fun i hi=>by simp at hi,fun b off e h1=>by simp at h1⟩
theorem zgp (b:Nat) (w:World) (h:j4 w b) :
  Calls prog 108 #[.pointer (some ⟨b,0,none⟩)] w fun e w'=>∃ q,e=.returned (.pointer (some ⟨q,0,none⟩))∧w.heap.size≤q∧But [] w w'∧zh w' q 0 1:=by
 obtain⟨-,c2,c3⟩:=h
 go_enter func108,ntmps108
 go_wp2_with fail
 refine (oz 1 _ (by omega) (by omega)).mono ?_
 rintro e w1 ⟨rfl,hb,hI,-⟩
 go_wp2
 go_ret
 exact⟨_,rfl,Nat.le_refl _,hb,hI⟩
theorem zfq (A b1 o1 b2 o2:Nat) (x y z:Int) (hz:x*y=z) (w P:World) (hs:Slot P A 0) (hw:But [] w P) (hA:w.heap.size≤A) (hx:zh P b1 o1 x) (hy:zh P b2 o2 y) (n1:A≠b1) (n2:A≠b2) (hlx:(wd 4294967296 x.natAbs).length<8388608) (hly:(wd 4294967296 y.natAbs).length<8388608) (hlz:(wd 4294967296 z.natAbs).length<8388608) :
  Calls prog 110 #[.pointer (some ⟨A,0,none⟩),.pointer (some ⟨b1,o1,none⟩),.pointer (some ⟨b2,o2,none⟩)] P fun e W1=>e=.returned (.pointer (some ⟨A,0,none⟩))∧But [] w W1∧zh W1 A 0 z∧(∀ B,B≠A→Slot P B 0→Slot W1 B 0)∧(∀ b o z,b≠A→zh P b o z→zh W1 b o z)∧P.heap.size≤W1.heap.size:=by
 refine (intMul_any A 0 b1 o1 b2 o2 x y P hs n1 n2 hx hy (by omega) (by omega) (by rw[← Int.natAbs_mul,hz];omega)).mono ?_
 rintro e W1 ⟨rfl,w1,v,hb,hv,rfl⟩
 rw[hz] at hv ⊢
 have hs1:=hs.but hb (by simp)
 exact⟨rfl,(hw.trans' hb).trans (zcq ..) (by simp;exact hA),zcp hs1 _ _ hv,fun B hB hS=>yj _ _ (hS.but hb (by simp)) (.inl hB),fun b o z' hB hI=>di hs1 _ _ (hI.but hb) (.inl hB),by rw[zgk];exact hb.size⟩
theorem xw.stay {W:World} {P Q R:Int} {b0 b1 b8:Nat} {a0 a1 a8 p q r z:Bool} {w w':World} (h:xw W P Q R b0 b1 b8 a0 a1 a8 p q r z w) (hb:But [] w w'):xw W P Q R b0 b1 b8 a0 a1 a8 p q r z w' :=
 ⟨h.but.trans' hb,fun e=>⟨(h.s0 e).1,Nat.lt_of_lt_of_le (h.s0 e).2.1 hb.size,fun k=>((h.s0 e).2.2 k).but hb (by simp)⟩,fun e=>⟨(h.s1 e).1,Nat.lt_of_lt_of_le (h.s1 e).2.1 hb.size,fun k=>((h.s1 e).2.2 k).but hb (by simp)⟩,fun e=>⟨(h.s8 e).1,Nat.lt_of_lt_of_le (h.s8 e).2.1 hb.size,fun k=>((h.s8 e).2.2 k).but hb (by simp)⟩,
  h.n01,h.n08,h.n18,fun e=>⟨(h.hp e).1,(h.hp e).2.but hb⟩,fun e=>⟨(h.hq e).1,(h.hq e).2.but hb⟩,fun e=>⟨(h.hr e).1,(h.hr e).2.but hb⟩,h.hz⟩
theorem info_kind:∃ i,prog.info? 45 = some i∧i.zero=some (.agg #[.bool false,.int .u64 0,.int .u64 0,.pointer none,.bool false,.int .u64 0,.int .u64 0,.pointer none,.bool false,.int .u64 0,.int .u64 0,.pointer none])∧i.size=12∧i.bytes=96:=by
 have h:(prog.info? 45).map (fun i=>(i.zero,i.size,i.bytes))=some (some (.agg #[.bool false,.int .u64 0,.int .u64 0,.pointer none,.bool false,.int .u64 0,.int .u64 0,.pointer none,.bool false,.int .u64 0,.int .u64 0,.pointer none]),12,96):=by kernel_rfl
 cases e:prog.info? 45 with
 | none=>rw[e] at h;simp at h
 | some i =>
  rw[e] at h
  simp only[Option.map_some,Option.some.injEq,Prod.mk.injEq] at h
  exact⟨i,rfl,h.1,h.2.1,h.2.2⟩
theorem append_kind (w:World) (base:Nat) (v:Value) (k:Nat) (us:List Value) (hown:w.ownsRow base 45 12 v k us) (g:Nat) (s1:Bool) (x1 y1:Int) (p1:Option Addr) (s2:Bool) (x2 y2:Int) (p2:Option Addr) (s3:Bool) (x3 y3:Int) (p3:Option Addr) (c:K12 w g 0 s1 x1 y1 p1 s2 x2 y2 p2 s3 x3 y3 p3) (hk:k<1000000) (hb:base≤w.heap.size) :
  ∃ v' w',(Builtin.append_ #[42,42] 42 #[v,.slice (some ⟨g,0,none⟩) 1 1]).run prog w=.ok v' w'∧w'.ownsRow base 45 12 v' (k+1) (us++[.bool s1,.int .u64 x1,.int .u64 y1,.pointer p1,.bool s2,.int .u64 x2,.int .u64 y2,.pointer p2,.bool s3,.int .u64 x3,.int .u64 y3,.pointer p3])∧w.grownBy w' v.ownBlock:=by
 obtain⟨i0,hi,hz0,hz1,hz2⟩:=info_kind
 obtain⟨v',w',hr,ho,hg,-⟩:=run_append_own (P:=prog) w base 42 42 45 i0 _ 12 96 underlying42 hi hz0 hz1 hz2 rfl (by decide) v k us hown ⟨g,0,none⟩ 1 1 [.bool s1,.int .u64 x1,.int .u64 y1,.pointer p1,.bool s2,.int .u64 x2,.int .u64 y2,.pointer p2,.bool s3,.int .u64 x3,.int .u64 y3,.pointer p3] rfl (fun j u hj=>by
   have:j=0∨j=1∨j=2∨j=3∨j=4∨j=5∨j=6∨j=7∨j=8∨j=9∨j=10∨j=11∨12≤j:=by omega
   obtain⟨⟨c0,c1,c2,c3⟩,⟨c4,c5,c6,c7⟩,c8,c9,c10,c11⟩:=c
   rcases this with rfl|rfl|rfl|rfl|rfl|rfl|rfl|rfl|rfl|rfl|rfl|rfl | h12
   ·simp at hj;subst hj;exact c0
   ·simp at hj;subst hj;exact c1
   ·simp at hj;subst hj;exact c2
   ·simp at hj;subst hj;exact c3
   ·simp at hj;subst hj;exact c4
   ·simp at hj;subst hj;exact c5
   ·simp at hj;subst hj;exact c6
   ·simp at hj;subst hj;exact c7
   ·simp at hj;subst hj;exact c8
   ·simp at hj;subst hj;exact c9
   ·simp at hj;subst hj;exact c10
   ·simp at hj;subst hj;exact c11
   ·rw[List.getElem?_eq_none (by simpa using h12)] at hj;simp at hj) (fun u hu=>by
   simp only[List.mem_cons,List.not_mem_nil,or_false] at hu
   rcases hu with rfl|rfl|rfl|rfl|rfl|rfl|rfl|rfl|rfl|rfl|rfl|rfl <;> rfl) (by unfold maxLen;omega) (by omega) hb
 exact⟨v',w',hr,ho,hg⟩
theorem zfs (f:Nat→List Value) (hf:∀ i,(f i).length=12):∀ k,((List.range k).flatMap f).length=k*12
 | 0=>rfl
 | k+1=>by rw[List.range_succ,List.flatMap_append,List.length_append,zfs f hf k,List.flatMap_singleton,hf k];omega
theorem flat_get (f:Nat→List Value) (hf:∀ i,(f i).length=12):∀ k i r,i<k→r<12→((List.range k).flatMap f)[i*12+r]? = (f i)[r]?
 | 0,i,r,h,_=>absurd h (by omega)
 | k+1,i,r,h,hr=>by
  rw[List.range_succ,List.flatMap_append,List.flatMap_singleton]
  by_cases hi:i<k
  ·rw[List.getElem?_append_left (by rw[zfs f hf k];omega)]
   exact flat_get f hf k i r hi hr
  ·obtain rfl:i=k:=by omega
   rw[List.getElem?_append_right (by rw[zfs f hf i];omega),zfs f hf i,show i*12+r-i*12=r by omega]
theorem chF (qs:List (Int × Int)) (hf:∀ q ∈ qs,Fits q):∃ (R:Nat→Bool) (X Y:Nat→Int),∀ i,i<qs.length→Len (qf (qs[i]?.getD (0,0))) 1∧(∀ W,am W (.agg #[.bool (R i),.int .u64 (X i),.int .u64 (Y i),.pointer none]) (qf (qs[i]?.getD (0,0))))∧∀ W,Calls prog 7 #[.agg #[.int .i64 (qs[i]?.getD (0,0)).1,.int .i64 (qs[i]?.getD (0,0)).2]] W fun e w'=>e=.returned (.agg #[.bool (R i),.int .u64 (X i),.int .u64 (Y i),.pointer none])∧But [] W w':=by
 have h:∀ i,∃ t:Bool × Int × Int,i<qs.length→Len (qf (qs[i]?.getD (0,0))) 1∧(∀ W,am W (.agg #[.bool t.1,.int .u64 t.2.1,.int .u64 t.2.2,.pointer none]) (qf (qs[i]?.getD (0,0))))∧∀ W,Calls prog 7 #[.agg #[.int .i64 (qs[i]?.getD (0,0)).1,.int .i64 (qs[i]?.getD (0,0)).2]] W fun e w'=>e=.returned (.agg #[.bool t.1,.int .u64 t.2.1,.int .u64 t.2.2,.pointer none])∧But [] W w':=fun i=>by
  by_cases hi:i<qs.length
  ·rw[List.getElem?_eq_getElem hi]
   obtain⟨r,x,y,h0,h1,h2⟩:=plainF_at qs[i] (hf _ (List.getElem_mem hi))
   exact⟨(r,x,y),fun _=>⟨h0,h1,h2⟩⟩
  ·exact⟨(false,0,0),fun h=>absurd h hi⟩
 obtain⟨t,ht⟩:=Classical.axiomOfChoice h
 exact⟨fun i=>(t i).1,fun i=>(t i).2.1,fun i=>(t i).2.2,ht⟩
theorem qs_cells {w:World} {q:Option Addr} {n c:Nat} {qs:List (Int × Int)} (h:QsAt w (.slice q n c) qs) (i:Nat) (hi:i<n):∃ b off,q=some ⟨b,off,none⟩∧w.cell? ⟨b,off+i*2,none⟩=some (.int .i64 (qs[i]?.getD (0,0)).1)∧w.cell? ⟨b,off+i*2+1,none⟩=some (.int .i64 (qs[i]?.getD (0,0)).2):=by
 obtain⟨a,cap,e,-,h⟩:=h
 simp only[Value.slice.injEq] at e
 obtain⟨rfl,rfl,-⟩:=e
 rw[List.getElem?_eq_getElem hi]
 exact h i _ (List.getElem?_eq_getElem hi)
end Go.Proofs.YtffghofheeleeaaGreatDoor
