/- Out of HS: what needs no more than these -/
import Derived.Test.YtollloafckcogaaGreatDoorKYC1
import Derived.Test.YtollloafckcogaaGreatDoorKYF10
import Derived.Test.YtollloafckcogaaGreatDoorKYHD
import Derived.Test.YtollloafckcogaaGreatDoorKYHP
namespace Go.Proofs.YtollloafckcogaaGreatDoor
open Go.RowKit
theorem lenU_mono {a b:Nat} (h:a≤b):(wd 4294967296 a).length≤(wd 4294967296 b).length:=wd_length_le (by omega) _ _ (Nat.lt_of_le_of_lt h (lt_of_wd_length (by omega) b _ (Nat.le_refl _)))
theorem lenU_add (a b n:Nat) (ha:(wd 4294967296 a).length≤n) (hb:(wd 4294967296 b).length≤n):(wd 4294967296 (a+b)).length≤n+1:=by
 refine wd_length_le (by omega) _ _ ?_
 have h1:=lt_of_wd_length (B:=4294967296) (by omega) a n ha
 have h2:=lt_of_wd_length (B:=4294967296) (by omega) b n hb
 rw [Nat.pow_succ]
 omega
end Go.Proofs.YtollloafckcogaaGreatDoor

namespace Go.Proofs.YtollloafckcogaaGreatDoor
open Go.RowKit
set_option maxHeartbeats 4000000
set_option maxRecDepth 100000
theorem lenU_int_add (x y:Int) (n:Nat) (hx:(wd 4294967296 x.natAbs).length≤n) (hy:(wd 4294967296 y.natAbs).length≤n):(wd 4294967296 (x+y).natAbs).length≤n+1 :=
 Nat.le_trans (lenU_mono (Int.natAbs_add_le x y)) (lenU_add _ _ n hx hy)
theorem lenU_of (f:Rat) (p q:Int) (n:Nat) (hq:q≠0) (h:f.num*q=p*(f.den:Int)) (hp:(wd 4294967296 p.natAbs).length≤n) (hl:(wd 4294967296 q.natAbs).length≤n):LenU f n:=by
 obtain ⟨e1,e2⟩:=red_rat p q hq f h
 constructor
 ·have h1:f.num.natAbs=p.natAbs/Nat.gcd p.natAbs q.natAbs:=by
   rw [e1,redN_abs]
   split <;> simp
  rw [h1]
  exact Nat.le_trans (lenU_mono (Nat.div_le_self _ _)) hp
 ·have h2:f.den=q.natAbs/Nat.gcd p.natAbs q.natAbs:=by
   have:=e2
   rw [redD] at this
   omega
  rw [h2]
  exact Nat.le_trans (lenU_mono (Nat.div_le_self _ _)) hl
theorem LenU.mono {f:Rat} {m n:Nat} (h:LenU f m) (hmn:m≤n):LenU f n:=⟨Nat.le_trans h.1 hmn,Nat.le_trans h.2 hmn⟩
theorem cross_addU (f g:Rat):(f+g).num*((f.den:Int)*(g.den:Int))=(f.num*(g.den:Int)+g.num*(f.den:Int))*((f+g).den:Int):=by
 have h:=cross_add f g
 grind
theorem lenU_prod (x y:Int) (m n:Nat) (hx:(wd 4294967296 x.natAbs).length≤m) (hy:(wd 4294967296 y.natAbs).length≤n):(wd 4294967296 (x*y).natAbs).length≤m+n:=by
 rw [Int.natAbs_mul]
 have:=lenU_mul x.natAbs y.natAbs
 omega
theorem LenU.mul {f g:Rat} {m n:Nat} (hf:LenU f m) (hg:LenU g n):LenU (f*g) (m+n):=by
 have hfd:0<f.den:=Nat.pos_of_ne_zero f.den_nz
 have hgd:0<g.den:=Nat.pos_of_ne_zero g.den_nz
 have hc:=cross_mul f g
 rw [Int.natCast_mul] at hc
 exact lenU_of _ _ _ _ (Int.mul_ne_zero (by omega) (by omega)) hc (lenU_prod _ _ _ _ hf.1 hg.1) (lenU_prod _ _ _ _ (by rw [Int.natAbs_natCast];exact hf.2) (by rw [Int.natAbs_natCast];exact hg.2))
theorem LenU.add {f g:Rat} {m n:Nat} (hf:LenU f m) (hg:LenU g n):LenU (f+g) (m+n+1):=by
 have hfd:0<f.den:=Nat.pos_of_ne_zero f.den_nz
 have hgd:0<g.den:=Nat.pos_of_ne_zero g.den_nz
 have d1:(wd 4294967296 ((f.den:Nat):Int).natAbs).length≤m:=by rw [Int.natAbs_natCast];exact hf.2
 have d2:(wd 4294967296 ((g.den:Nat):Int).natAbs).length≤n:=by rw [Int.natAbs_natCast];exact hg.2
 refine lenU_of _ _ _ _ (Int.mul_ne_zero (by omega) (by omega)) (cross_addU f g) (lenU_int_add _ _ _ (lenU_prod _ _ _ _ hf.1 d2) ?_) (Nat.le_succ_of_le (lenU_prod _ _ _ _ d1 d2))
 rw [Nat.add_comm m n]
 exact lenU_prod _ _ _ _ hg.1 d1
theorem refAdd_any (xb yb:Nat) (f g:Rat) (w:World) (hx:RatIs w xb f) (hy:RatIs w yb g) (lf:LenU f 2000000) (lg:LenU g 2000000) :
  Calls Tryz.prog 53 #[.pointer (some ⟨xb,0,none⟩),.pointer (some ⟨yb,0,none⟩)] w fun e w'=>∃ zb,e=.returned (.pointer (some ⟨zb,0,none⟩))∧But [] w w'∧RatIs w' zb (f+g)∧w.heap.size≤zb:=by
 have hfd:0<f.den:=Nat.pos_of_ne_zero f.den_nz
 have hgd:0<g.den:=Nat.pos_of_ne_zero g.den_nz
 have hQ0:(f.den:Int)*(g.den:Int)≠0:=Int.mul_ne_zero (by omega) (by omega)
 obtain ⟨e1,e2⟩:=red_rat (f.num*(g.den:Int)+g.num*(f.den:Int)) ((f.den:Int)*(g.den:Int)) hQ0 (f+g) (cross_addU f g)
 obtain ⟨W0,hW0⟩:∃ W0,W0=w.alloc (.cells #[.bool false,.slice none 0 0,.bool false,.slice none 0 0] 92):=⟨_,rfl⟩
 have hs:=ratSlots w 92
 have hbw:But [] w W0:=by rw [hW0];exact (But.refl _ _).alloc _
 rw [← hW0] at hs
 obtain ⟨lf1,lf2⟩:=lf
 obtain ⟨lg1,lg2⟩:=lg
 have d1:(wd 4294967296 ((f.den:Nat):Int).natAbs).length≤2000000:=by rw [Int.natAbs_natCast];exact lf2
 have d2:(wd 4294967296 ((g.den:Nat):Int).natAbs).length≤2000000:=by rw [Int.natAbs_natCast];exact lg2
 have p1:=lenU_prod f.num (g.den:Int) _ _ lf1 d2
 have p2:=lenU_prod g.num (f.den:Int) _ _ lg1 d1
 have p3:=lenU_prod (f.den:Int) (g.den:Int) _ _ d1 d2
 have p4:=lenU_int_add _ _ _ p1 p2
 have MU:=hide (ratAddU_any w.heap.size xb yb f.num g.num f.den g.den W0 hs.1 hs.2 (RatAt.but hx hbw) (RatAt.but hy hbw) hfd hgd (by omega) (by omega) (by omega) (by omega) _ _ _ _ rfl rfl rfl rfl (by omega) (by omega) (by omega) (by omega) hQ0 (f+g).num ((f+g).den:Int) e1 e2)
 have HW0:=hide hW0
 have HBW:=hide hbw
 clear hW0 hbw hs e1 e2 hQ0 p1 p2 p3 p4 d1 d2 lf1 lf2 lg1 lg2 hx hy hfd hgd
 go_enter Tryz.func53,Tryz.ntmps53
 go_wp2_with fail
 rw [← unhide HW0]
 refine (unhide MU).mono ?_
 rintro e w1 ⟨rfl,h1,h2⟩
 have FIN:=hide (And.intro ((unhide HBW).trans h1 (by simp)) h2)
 clear h1 h2 MU
 go_wp2
 go_ret
 exact ⟨w.heap.size,rfl,(unhide FIN).1,(unhide FIN).2,Nat.le_refl _⟩
end Go.Proofs.YtollloafckcogaaGreatDoor

namespace Go.Proofs.YtollloafckcogaaGreatDoor
open Go.RowKit
set_option maxHeartbeats 1000000
theorem whole_any (x:Int) (h1:-9223372036854775808≤x) (h2:x<9223372036854775808) (w:World) :
  Calls Tryz.prog 50 #[.int .i64 x] w fun e w'=>e=.returned (.agg #[.bool (decide (x<0)),.int .u64 ((x.natAbs:Nat):Int),.int .u64 (((1:Nat):Int)-1),.pointer none])∧But [] w w':=by
 obtain ⟨s,hs⟩:∃ s,s=decide (x<0):=⟨_,rfl⟩
 obtain ⟨n,hn⟩:∃ n,n=x.natAbs:=⟨_,rfl⟩
 rw [← hs,← hn]
 have HS:=hide hs
 have HN:=hide hn
 go_enter Tryz.func50,Tryz.ntmps50
 go_wp2_with fail
 refine (size_any x h1 h2 _).mono ?_
 rintro e w1 ⟨rfl,hw⟩
 obtain rfl:=hw.symm
 go_wp2
 exact bodyPost_ret (v:=.agg #[.bool (decide (x<0)),.int .u64 ((x.natAbs:Nat):Int),.int .u64 0,.pointer none]) (by simp [results,Tryz.results50,go_sem]) rfl ⟨by rw [unhide HS,unhide HN];rfl,(But.refl _ _).alloc _⟩
end Go.Proofs.YtollloafckcogaaGreatDoor

namespace Go.Proofs.YtollloafckcogaaGreatDoor
open Go.RowKit
theorem int_parts (n:Int):((n:Int):Rat).num=n∧((n:Int):Rat).den=1:=⟨by simp,by simp⟩
theorem len_int (n:Int) (h:n.natAbs < 18446744073709551616):Len ((n:Int):Rat) 1:=by
 obtain ⟨h1,h2⟩:=int_parts n
 exact len_of (m:=1) (n:=1) (by rw [h1,Nat.pow_one];exact h) (by rw [h2];decide) 1 (Nat.le_refl _) (Nat.le_refl _)
theorem whole_is (x:Int) (h1:-9223372036854775808≤x) (h2:x<9223372036854775808) :
  ∃ (r:Bool) (p:Int),(∀ W,FracAt W (.agg #[.bool r,.int .u64 p,.int .u64 0,.pointer none]) ((x:Int):Rat))∧∀ W,Calls Tryz.prog 50 #[.int .i64 x] W fun e w'=>e=.returned (.agg #[.bool r,.int .u64 p,.int .u64 0,.pointer none])∧But [] W w':=by
 obtain ⟨e1,e2⟩:=int_parts x
 refine ⟨decide (x<0),((x.natAbs:Nat):Int),fun W=>.inl ⟨by rw [e1];omega,by rw [e2];decide,by rw [e1,e2];rfl⟩,fun W=>?_⟩
 have h:=whole_any x h1 h2 W
 rw [show (((1:Nat):Int)-1)=0 from rfl] at h
 exact h
end Go.Proofs.YtollloafckcogaaGreatDoor

namespace Go.Proofs.YtollloafckcogaaGreatDoor
open Go.RowKit
theorem den_times (x:Rat):x*((x.den:Int):Rat)=((x.num:Int):Rat):=by
 obtain ⟨i1,i2⟩:=int_parts (x.den:Int)
 obtain ⟨j1,j2⟩:=int_parts x.num
 have h:=cross_mul x ((x.den:Int):Rat)
 rw [i1,i2,Nat.mul_one] at h
 have hd:=den_pos x
 obtain ⟨e1,e2⟩:=rat_of_coprime x.num 1 (by omega) (by simp) (x*((x.den:Int):Rat)) (by
  refine Int.eq_of_mul_eq_mul_right (show (x.den:Int)≠0 by omega) ?_
  grind)
 exact Rat.ext (by rw [e1,j1]) (by rw [e2,j2])
theorem int_ne (z:Int) (h:z≠0):((z:Int):Rat)≠0:=fun e=>h (by
 have:=congrArg Rat.num e
 rwa [(int_parts z).1] at this)
def qf (q:Int × Int):Rat:=((q.1:Int):Rat)/(((if q.2=0 then 1 else q.2):Int):Rat)
theorem qf_of (f:Rat) (q:Int × Int) (h:f.num*(if q.2=0 then 1 else q.2)=q.1*f.den):f=qf q:=by
 unfold qf
 have hy:(if q.2=0 then (1:Int) else q.2)≠0:=by split <;> omega
 generalize (if q.2=0 then (1:Int) else q.2)=y at *
 have h1:=den_times f
 have h2:((f.num*y:Int):Rat)=((q.1*(f.den:Int):Int):Rat):=by rw [h]
 rw [Rat.intCast_mul,Rat.intCast_mul] at h2
 have hd:=int_ne (f.den:Int) (by have:=den_pos f;omega)
 have hy':=int_ne y hy
 generalize ((y:Int):Rat)=Y at *
 generalize ((f.den:Int):Rat)=D at *
 generalize ((f.num:Int):Rat)=M at *
 generalize ((q.1:Int):Rat)=X at *
 rw [← h1] at h2
 grind
def Fits (q:Int × Int):Prop:=-9223372036854775808≤q.1∧q.1<9223372036854775808∧-9223372036854775808≤q.2∧q.2<9223372036854775808
theorem plainF_at (q:Int × Int) (h:Fits q):∃ (r:Bool) (x y:Int),Len (qf q) 1∧(∀ W,FracAt W (.agg #[.bool r,.int .u64 x,.int .u64 y,.pointer none]) (qf q))∧∀ W,Calls Tryz.prog 7 #[.agg #[.int .i64 q.1,.int .i64 q.2]] W fun e w'=>e=.returned (.agg #[.bool r,.int .u64 x,.int .u64 y,.pointer none])∧But [] W w':=by
 obtain ⟨f,r,x,y,h1,h2,h3,h4⟩:=plainF_any q.1 q.2 h.1 h.2.1 h.2.2.1 h.2.2.2
 have e:=qf_of f q h2
 subst e
 exact ⟨r,x,y,h1,h3,h4⟩
def QsAt (w:World) (v:Value) (qs:List (Int × Int)):Prop:=∃ a cap,v=.slice a qs.length cap∧qs.length≤cap∧∀ i q,qs[i]? = some q→∃ b off,a=some ⟨b,off,none⟩∧w.cell? ⟨b,off+i*2,none⟩=some (.int .i64 q.1)∧w.cell? ⟨b,off+i*2+1,none⟩=some (.int .i64 q.2)
theorem QsAt.but {w w':World} {v:Value} {qs:List (Int × Int)} (h:QsAt w v qs) (hb:But [] w w'):QsAt w' v qs:=by
 obtain ⟨a,cap,e,hc,h⟩:=h
 refine ⟨a,cap,e,hc,fun i q hq=>?_⟩
 obtain ⟨b,off,e1,h1,h2⟩:=h i q hq
 exact ⟨b,off,e1,hb.cell_some h1 (by simp),hb.cell_some h2 (by simp)⟩
theorem append_frac (w:World) (base:Nat) (v:Value) (k:Nat) (vs:List Value) (hown:w.ownsRow base 27 4 v k (parts4 vs)) (g:Nat) (s:Bool) (x y:Int) (p:Option Addr) (c:P4 w g s x y p) (hk:k<1000000) (hb:base≤w.heap.size) :
  ∃ v' w',(Builtin.append_ #[42,42] 42 #[v,.slice (some ⟨g,0,none⟩) 1 1]).run Tryz.prog w=.ok v' w'∧w'.ownsRow base 27 4 v' (k+1) (parts4 (vs++[.agg #[.bool s,.int .u64 x,.int .u64 y,.pointer p]]))∧w.grownBy w' v.ownBlock:=by
 obtain ⟨i0,hi,hz0,hz1,hz2⟩:=info_frac
 obtain ⟨v',w',hr,ho,hg,-⟩:=run_append_own (P:=Tryz.prog) w base 42 42 27 i0 _ 4 32 Tryz.underlying42 hi hz0 hz1 hz2 rfl (by decide) v k (parts4 vs) hown ⟨g,0,none⟩ 1 1 [.bool s,.int .u64 x,.int .u64 y,.pointer p] rfl (fun j u hj=>by
   have:j=0∨j=1∨j=2∨j=3∨4≤j:=by omega
   obtain ⟨c0,c1,c2,c3⟩:=c
   rcases this with rfl | rfl | rfl | rfl | h4
   ·simp at hj;subst hj;exact c0
   ·simp at hj;subst hj;exact c1
   ·simp at hj;subst hj;exact c2
   ·simp at hj;subst hj;exact c3
   ·rw [List.getElem?_eq_none (by simpa using h4)] at hj;simp at hj) (fun u hu=>by
   simp only [List.mem_cons,List.not_mem_nil,or_false] at hu
   rcases hu with rfl | rfl | rfl | rfl <;> rfl) (by unfold maxLen;omega) (by omega) hb
 refine ⟨v',w',hr,?_,hg⟩
 rw [parts4_append]
 exact ho
end Go.Proofs.YtollloafckcogaaGreatDoor

namespace Go.Proofs.YtollloafckcogaaGreatDoor
open Go.RowKit
set_option linter.unusedVariables false
theorem ownsRow_form {w:World} {base:Nat} {e:TypeId} {size:Nat} {v:Value} {n:Nat} {xs:List Value} (h:w.ownsRow base e size v n xs):∃ a c,v=.slice a n c:=by
 rcases h.2 with ⟨rfl,h0⟩ | ⟨g,cap,cur,rfl,-⟩
 ·exact ⟨none,0,by rw [h0]⟩
 ·exact ⟨_,_,rfl⟩
theorem but_of_grown {w0 w w':World} {base:Nat} {e:TypeId} {size:Nat} {v:Value} {n:Nat} {xs:List Value} (h:But [] w0 w) (ho:w.ownsRow base e size v n xs) (hb:w0.heap.size≤base) (hg:w.grownBy w' v.ownBlock):But [] w0 w' :=
 ⟨hg.os.trans h.os,hg.tape.trans h.tape,hg.output.trans h.output,Nat.le_trans h.size hg.size,fun k hk _=>by
  rw [hg.block k (Nat.lt_of_lt_of_le hk h.size) (fun e=>by have:=(ho.lt k e.symm).1;omega)]
  exact h.block k hk (by simp)⟩
theorem ownsRow_but {w w':World} {base:Nat} {e:TypeId} {size:Nat} {v:Value} {n:Nat} {xs:List Value} (h:w.ownsRow base e size v n xs) (hb:But [] w w'):w'.ownsRow base e size v n xs :=
 h.kept (row:=none) ⟨hb.os,hb.tape,hb.output,hb.size,fun k hk _=>hb.block k hk (by simp)⟩ (by
  by_cases h0:v.ownBlock=none
  ·exact .inl h0
  ·exact .inr h0)
end Go.Proofs.YtollloafckcogaaGreatDoor

namespace Go.Proofs.YtollloafckcogaaGreatDoor
open Go.RowKit
def NoRat (u:Value):Prop:=(∀ s,u≠.bool s)∧∀ n:Int,u≠.int .u32 n
theorem IntAt.overU {w w':World} {b o g:Nat} {z:Int} {u:Value} (h:IntAt w b o z) (hb:But [g] w w') (hn:b≠g) (hc:w.cell? ⟨g,0,none⟩=some u) (hu:NoRat u):IntAt w' b o z:=by
 obtain ⟨h0,v,h1,h2⟩:=h
 exact ⟨hb.cell_some h0 (by simpa using hn),v,hb.cell_some h1 (by simpa using hn),h2.over hb hc (fun n e=>hu.2 n e)⟩
theorem RatIs.overU {w w':World} {b g:Nat} {f:Rat} {u:Value} (h:RatIs w b f) (hb:But [g] w w') (hc:w.cell? ⟨g,0,none⟩=some u) (hu:NoRat u):RatIs w' b f:=by
 have hn:b≠g:=fun e=>by
  subst e
  have h1:=h.up.1
  rw [hc] at h1
  exact hu.1 _ (Option.some.inj h1)
 exact ⟨h.up.overU hb hn hc hu,h.low.overU hb hn hc hu,h.sa.but hb (by simpa using hn),h.sb.but hb (by simpa using hn)⟩
theorem noRat_ptr (q:Option Addr):NoRat (.pointer q):=⟨fun s e=>by simp at e,fun n e=>by simp at e⟩
def PtrIs (w:World) (v:Value) (f:Rat):Prop:=∃ g,v=.pointer (some ⟨g,0,none⟩)∧RatIs w g f
theorem PtrIs.but {w w':World} {v:Value} {f:Rat} (h:PtrIs w v f) (hb:But [] w w'):PtrIs w' v f:=h.elim fun g ⟨e,h⟩=>⟨g,e,h.but hb⟩
def RatsAt (w:World) (v:Value) (fs:List Rat):Prop:=∃ a cap,v=.slice a fs.length cap∧fs.length≤cap∧∀ (i:Nat) (f:Rat),fs[i]? = some f→∃ b off u,a=some ⟨b,off,none⟩∧w.cell? ⟨b,off+i,none⟩=some u∧PtrIs w u f
theorem RatsAt.but {w w':World} {v:Value} {fs:List Rat} (h:RatsAt w v fs) (hb:But [] w w'):RatsAt w' v fs:=by
 obtain ⟨a,cap,e,h1,h2⟩:=h
 refine ⟨a,cap,e,h1,fun i f hi=>?_⟩
 obtain ⟨b,off,u,h3,h4,h5⟩:=h2 i f hi
 exact ⟨b,off,u,h3,hb.cell_some h4 (by simp),h5.but hb⟩
theorem RatsAt.open {w:World} {v:Value} {fs:List Rat} (h:RatsAt w v fs):∃ a cap,v=.slice a fs.length cap∧fs.length≤cap:=by
 obtain ⟨a,cap,e,h1,-⟩:=h
 exact ⟨a,cap,e,h1⟩
theorem RatsAt.at {w:World} {a:Option Addr} {n cap:Nat} {fs:List Rat} (h:RatsAt w (.slice a n cap) fs) (i:Nat) (hi:i<n):n=fs.length∧∃ b off g f,a=some ⟨b,off,none⟩∧w.cell? ⟨b,off+i,none⟩=some (.pointer (some ⟨g,0,none⟩))∧fs[i]? = some f∧RatIs w g f:=by
 obtain ⟨a',cap',e,h1,h2⟩:=h
 simp only [Value.slice.injEq] at e
 obtain ⟨rfl,rfl,rfl⟩:=e
 obtain ⟨b,off,u,h3,h4,g,rfl,h5⟩:=h2 i _ (List.getElem?_eq_getElem hi)
 exact ⟨rfl,b,off,g,_,h3,h4,List.getElem?_eq_getElem hi,h5⟩
theorem info_ref:∃ i,Tryz.prog.info? 37 = some i∧i.zero=some (.pointer none)∧i.size=1∧i.bytes=8:=by
 have h:(Tryz.prog.info? 37).map (fun i=>(i.zero,i.size,i.bytes))=some (some (.pointer none),1,8):=by kernel_rfl
 cases e:Tryz.prog.info? 37 with
 | none=>rw [e] at h;simp at h
 | some i =>
  rw [e] at h
  simp only [Option.map_some,Option.some.injEq,Prod.mk.injEq] at h
  exact ⟨i,rfl,h.1,h.2.1,h.2.2⟩
structure OwnR (w:World) (base:Nat) (v:Value) (fs:List Rat) (us:List Value):Prop where
 own:w.ownsRow base 37 1 v fs.length us
 len:us.length=fs.length
 val:∀ (i:Nat) (f:Rat),fs[i]? = some f→∃ u,us[i]? = some u∧PtrIs w u f
 nil:fs=[]→v=.slice none 0 0
theorem OwnR.empty (w:World) (base:Nat):OwnR w base (.slice none 0 0) [] []:=⟨World.ownsRow_nil _ _ _ _,rfl,fun i f h=>by simp at h,fun _=>rfl⟩
theorem OwnR.but {w w':World} {base:Nat} {v:Value} {fs:List Rat} {us:List Value} (h:OwnR w base v fs us) (hb:But [] w w'):OwnR w' base v fs us :=
 ⟨ownsRow_but h.own hb,h.len,fun i f hi=>(h.val i f hi).elim fun u ⟨e,p⟩=>⟨u,e,p.but hb⟩,h.nil⟩
theorem OwnR.mono {w:World} {base b2:Nat} {v:Value} {fs:List Rat} {us:List Value} (h:OwnR w base v fs us) (hb:b2≤base):OwnR w b2 v fs us:=by
 refine ⟨⟨h.own.1,?_⟩,h.len,h.val,h.nil⟩
 rcases h.own.2 with e | ⟨g,cap,cur,e,h1,h2⟩
 ·exact .inl e
 ·exact .inr ⟨g,cap,cur,e,Nat.le_trans hb h1,h2⟩
theorem OwnR.form {w:World} {base:Nat} {v:Value} {fs:List Rat} {us:List Value} (h:OwnR w base v fs us):∃ a c,v=.slice a fs.length c:=ownsRow_form h.own
theorem OwnR.block {w:World} {base:Nat} {v:Value} {fs:List Rat} {us:List Value} (h:OwnR w base v fs us) (h0:fs≠[]):∃ g cap,v=.slice (some ⟨g,0,none⟩) fs.length cap∧fs.length≤cap∧base≤g∧v.ownBlock=some g∧∃ q,w.cell? ⟨g,0,none⟩=some (.pointer q):=by
 have hl:0<fs.length:=List.length_pos_iff.2 h0
 rcases h.own.2 with ⟨-,e⟩ | ⟨g,cap,cur,e,h1,h2,h3,-⟩
 ·omega
 ·refine ⟨g,cap,e,h3,h1,by rw [e];rfl,?_⟩
  obtain ⟨u,hu,b,rfl,-⟩:=h.val 0 _ (List.getElem?_eq_getElem hl)
  have hc:=h.own.cells (g:=g) (by rw [e];rfl) 0 _ hu
  exact ⟨_,by simpa [Addr.add] using hc⟩
theorem OwnR.rats {w:World} {base:Nat} {v:Value} {fs:List Rat} {us:List Value} (h:OwnR w base v fs us):RatsAt w v fs:=by
 by_cases h0:fs=[]
 ·subst h0
  rw [h.nil rfl]
  exact ⟨none,0,rfl,Nat.le_refl _,fun i x hx=>by simp at hx⟩
 ·obtain ⟨g,cap,e,h3,-,e2,-⟩:=h.block h0
  refine ⟨_,cap,e,h3,fun i f hi=>?_⟩
  obtain ⟨u,hu,hp⟩:=h.val i f hi
  refine ⟨g,0,u,rfl,?_,hp⟩
  have hc:=h.own.cells (g:=g) (by rw [e];rfl) i u hu
  have ea:(⟨g,0,none⟩:Addr).add i=⟨g,0+i,none⟩:=by
   by_cases hz:i=0
   ·simp [Addr.add,hz]
   ·simp [Addr.add,hz]
  rw [ea] at hc
  exact hc
theorem append_ref (w w0:World) (v:Value) (fs:List Rat) (us:List Value) (base:Nat) (hown:OwnR w base v fs us) (g:Nat) (u:Value) (f:Rat) (c:w.cell? ⟨g,0,none⟩=some u) (hp:PtrIs w u f) (hk:fs.length<1000000) (h0:But [] w0 w) (hb:w0.heap.size≤base) (hw:base≤w.heap.size) :
  ∃ v' w',(Builtin.append_ #[46,46] 46 #[v,.slice (some ⟨g,0,none⟩) 1 1]).run Tryz.prog w=.ok v' w'∧OwnR w' base v' (fs++[f]) (us++[u])∧But [] w0 w'∧But v.ownBlock.toList w w'∧w.heap.size≤w'.heap.size∧(∀ (b:Nat) (r:Rat),RatIs w b r→RatIs w' b r):=by
 obtain ⟨i0,hi,hz0,hz1,hz2⟩:=info_ref
 obtain ⟨v',w',hr,ho,hg,-⟩:=run_append_own (P:=Tryz.prog) w base 46 46 37 i0 _ 1 8 Tryz.underlying46 hi hz0 hz1 hz2 rfl (by decide) v fs.length us hown.own ⟨g,0,none⟩ 1 1 [u] rfl (fun j x hj=>by
   cases j with
   | zero=>simp at hj;subst hj;exact c
   | succ j=>simp at hj) (fun x hx=>by
   simp only [List.mem_cons,List.not_mem_nil,or_false] at hx
   subst hx
   obtain ⟨b,rfl,-⟩:=hp
   rfl) (by unfold maxLen;omega) (by omega) hw
 have hB:But v.ownBlock.toList w w':=⟨hg.os,hg.tape,hg.output,hg.size,fun j hj hn=>hg.block j hj (by
  intro e
  rw [← e] at hn
  simp at hn)⟩
 have stay:∀ (b:Nat) (r:Rat),RatIs w b r→RatIs w' b r:=by
  by_cases h1:fs=[]
  ·have:v.ownBlock=none:=by rw [hown.nil h1];rfl
   rw [this] at hB
   exact fun b r h=>h.but hB
  ·obtain ⟨gb,cap,-,-,-,e2,q,hq⟩:=hown.block h1
   rw [e2] at hB
   exact fun b r h=>h.overU hB hq (noRat_ptr q)
 have stayP:∀ (x:Value) (r:Rat),PtrIs w x r→PtrIs w' x r:=fun x r ⟨b,e,h⟩=>⟨b,e,stay b r h⟩
 refine ⟨v',w',hr,⟨by rw [List.length_append];exact ho,by simp [hown.len],fun i q hi=>?_,fun e=>by simp at e⟩,but_of_grown h0 hown.own hb hg,hB,hg.size,stay⟩
 rcases Nat.lt_or_ge i fs.length with hlt | hge
 ·rw [List.getElem?_append_left hlt] at hi
  obtain ⟨x,e1,h1⟩:=hown.val i q hi
  exact ⟨x,by rw [List.getElem?_append_left (by rw [hown.len];exact hlt)];exact e1,stayP _ _ h1⟩
 ·have hi0:i=fs.length:=by
   have:=(List.getElem?_eq_some_iff.1 hi).1
   simp at this
   omega
  subst hi0
  rw [List.getElem?_append_right (Nat.le_refl _),Nat.sub_self] at hi
  simp only [List.getElem?_cons_zero,Option.some.injEq] at hi
  subst hi
  refine ⟨u,?_,stayP _ _ hp⟩
  rw [List.getElem?_append_right (by rw [hown.len];exact Nat.le_refl _),hown.len,Nat.sub_self]
  rfl
end Go.Proofs.YtollloafckcogaaGreatDoor

namespace Go.Proofs.YtollloafckcogaaGreatDoor
open Go.RowKit
set_option maxHeartbeats 8000000
set_option maxRecDepth 100000
theorem plainFs_any (v:Value) (qs:List (Int × Int)) (w:World) (hq:QsAt w v qs) (hf:∀ q ∈ qs,Fits q) (hn:qs.length≤1000) :
  Calls Tryz.prog 14 #[v] w fun e w'=>∃ v' vs,e=.returned v'∧Holds4 w' w.heap.size 27 v' (qs.map qf) vs∧But [] w w':=by
 obtain ⟨a,cap,rfl,hcap,hc⟩:=hq
 obtain ⟨R,X,Y,hV⟩:∃ (R:Nat→Bool) (X Y:Nat→Int),∀ i,i<qs.length→(∀ W,FracAt W (.agg #[.bool (R i),.int .u64 (X i),.int .u64 (Y i),.pointer none]) (qf (qs[i]?.getD (0,0))))∧∀ W,Calls Tryz.prog 7 #[.agg #[.int .i64 (qs[i]?.getD (0,0)).1,.int .i64 (qs[i]?.getD (0,0)).2]] W fun e w'=>e=.returned (.agg #[.bool (R i),.int .u64 (X i),.int .u64 (Y i),.pointer none])∧But [] W w':=by
  have h:∀ i,∃ t:Bool × Int × Int,i<qs.length→(∀ W,FracAt W (.agg #[.bool t.1,.int .u64 t.2.1,.int .u64 t.2.2,.pointer none]) (qf (qs[i]?.getD (0,0))))∧∀ W,Calls Tryz.prog 7 #[.agg #[.int .i64 (qs[i]?.getD (0,0)).1,.int .i64 (qs[i]?.getD (0,0)).2]] W fun e w'=>e=.returned (.agg #[.bool t.1,.int .u64 t.2.1,.int .u64 t.2.2,.pointer none])∧But [] W w':=fun i=>by
   by_cases hi:i<qs.length
   ·rw [List.getElem?_eq_getElem hi]
    obtain ⟨r,x,y,-,h1,h2⟩:=plainF_at qs[i] (hf _ (List.getElem_mem hi))
    exact ⟨(r,x,y),fun _=>⟨h1,h2⟩⟩
   ·exact ⟨(false,0,0),fun h=>absurd h hi⟩
  obtain ⟨t,ht⟩:=Classical.axiomOfChoice h
  exact ⟨fun i=>(t i).1,fun i=>(t i).2.1,fun i=>(t i).2.2,ht⟩
 have hcell:∀ i,i<qs.length→∃ b off,a=some ⟨b,off,none⟩∧w.cell? ⟨b,off+i*2,none⟩=some (.int .i64 (qs[i]?.getD (0,0)).1)∧w.cell? ⟨b,off+i*2+1,none⟩=some (.int .i64 (qs[i]?.getD (0,0)).2):=fun i hi=>by
  rw [List.getElem?_eq_getElem hi]
  exact hc i _ (List.getElem?_eq_getElem hi)
 have hmap:∀ i,(qs.map qf)[i]? = (qs[i]?).map qf:=fun i=>List.getElem?_map ..
 have HM:=hide hmap
 have HC:=hide hcell
 have HV:=hide hV
 clear hmap hcell hV hc hf
 obtain ⟨n,hnn⟩:∃ n,n=qs.length:=⟨_,rfl⟩
 have HN:=hide hnn
 rw [← hnn] at hn hcap HC HV
 rw [← hnn]
 clear hnn
 go_enter Tryz.func14,Tryz.ntmps14
 go_wp2
 go_loopw [3,8] (fun o i wr=>∃ k:Nat,k≤n∧i=.int .i64 (k:Int)∧Hid (wr.ownsRow w.heap.size 27 4 o k (parts4 ((List.range k).map fun i=>.agg #[.bool (R i),.int .u64 (X i),.int .u64 (Y i),.pointer none]))∧But [] w wr)) (fun _ i _=>n-(intOf i).toNat)
 case atStart=>exact ⟨0,Nat.zero_le _,rfl,World.ownsRow_nil _ _ _ _,But.refl _ _⟩
 case round =>
  obtain ⟨k,hk,rfl,HI⟩:=hrel
  rename World=>wr
  by_cases hlt:k<n
  ·obtain ⟨b,off,rfl,c0,c1⟩:=unhide HC k hlt
   have c0':=(unhide HI).2.cell_some c0 (by simp)
   have c1':=(unhide HI).2.cell_some c1 (by simp)
   obtain ⟨hva,hvb⟩:=unhide HV k hlt
   have PF:=hide hvb
   clear hva hvb c0 c1
   generalize (qs[k]?.getD (0,0)).1=q1 at *
   generalize (qs[k]?.getD (0,0)).2=q2 at *
   have ba:=(But.refl [] wr).alloc (.cells #[.int .i64 q1,.int .i64 q2] 23)
   have BA:=hide ba
   clear ba
   go_wp2_with fail
   refine (unhide PF _).mono ?_
   rintro e w1 ⟨rfl,hb1⟩
   have B1:Hid (But [] wr w1):=(unhide BA).trans' hb1
   clear hb1
   obtain ⟨V,hV⟩:∃ V,V=w1.alloc (.cells #[.bool (R k),.int .u64 (X k),.int .u64 (Y k),.pointer none] 27):=⟨_,rfl⟩
   have cc:P4 V w1.heap.size (R k) (X k) (Y k) none:=by rw [hV];exact ⟨by simp,by simp,by simp,by simp⟩
   have bV:But [] wr V:=(unhide B1).trans' (by rw [hV];exact (But.refl _ _).alloc _)
   have oV:=ownsRow_but (unhide HI).1 bV
   obtain ⟨v',w',hr,ho,hg⟩:=append_frac V w.heap.size u3 k _ oV w1.heap.size _ _ _ _ cc (by omega) ((unhide HI).2.trans' bV).size
   have BF:Hid (But [] w w'):=but_of_grown ((unhide HI).2.trans' bV) oV (Nat.le_refl _) hg
   have HO:=hide ho
   rw [hV] at hr
   have HR:=hide hr
   clear hr ho hg oV bV cc hV
   go_wp2_with (at_builtin;refine wpList_app rfl _ _ 42 42 rfl _ _ v' w' rfl rfl (unhide HR) ?_)
   refine ⟨⟨k+1,by omega,by go_num,by rw [List.range_succ,List.map_append];exact unhide HO,unhide BF⟩,by simp [intOf];omega⟩
  ·obtain rfl:k=n:=by omega
   obtain ⟨a',c',rfl⟩:=ownsRow_form (unhide HI).1
   go_wp2
   go_ret
   have hlen:(qs.map qf).length=k:=by rw [List.length_map];exact (unhide HN).symm
   refine ⟨_,_,rfl,⟨by rw [hlen];exact (unhide HI).1,by simp [hlen],fun i f hi=>?_⟩,(unhide HI).2⟩
   have hik:i<k:=by rw [← hlen];exact (List.getElem?_eq_some_iff.1 hi).1
   refine ⟨_,_,_,_,by rw [List.getElem?_map,List.getElem?_range hik];rfl,?_⟩
   have h1:=(unhide HV i hik).1 wr
   rw [unhide HM i] at hi
   cases hq:qs[i]? with
   | none=>rw [hq] at hi;simp at hi
   | some q =>
    rw [hq] at hi h1
    simp only [Option.map_some,Option.some.injEq] at hi
    rw [← hi]
    exact h1
end Go.Proofs.YtollloafckcogaaGreatDoor

namespace Go.Proofs.YtollloafckcogaaGreatDoor
open Go.RowKit
set_option maxHeartbeats 8000000
set_option maxRecDepth 100000
theorem growth_any (v:Value) (f:Rat) (w:World) (hf:FracAt w v f) (lf:Len f 1) :
  Calls Tryz.prog 52 #[v] w fun e w'=>∃ v',e=.returned v'∧FracAt w' v' (1+f)∧But [] w w':=by
 obtain ⟨ws,wx,FW,CW⟩:=whole_is 1 (by omega) (by omega)
 have AD:Hid (∀ (W:World),FracAt W v f→Calls Tryz.prog 59 #[.agg #[.bool ws,.int .u64 wx,.int .u64 0,.pointer none],v] W fun e w'=>∃ v,e=.returned v∧FracAt w' v (1+f)∧But [] W w'):=fun W h2 =>
  fracAdd_gen 1 1 (by omega) _ v ((1:Int):Rat) f W (FW W) h2 (len_int 1 (by decide)) lf
 have CWH:=hide CW
 have HFA:=hide hf
 obtain ⟨x1,y1,p1,rfl,-⟩:=hf.agg
 clear hf lf FW CW
 generalize hsf:decide (f.num<0)=s1 at *
 clear hsf
 obtain ⟨W,hW⟩:∃ W,W=(w.alloc (.cells #[.bool s1,.int .u64 x1,.int .u64 y1,.pointer p1] 27)).alloc (.cells #[.bool false,.int .u64 0,.int .u64 0,.pointer none] 27):=⟨_,rfl⟩
 obtain ⟨tA,tC,fz,hB⟩:=two_new w W _ _ _ hW
 have a0:=tA 0
 have a1:=tA 1
 have a2:=tA 2
 have a3:=tA 3
 have r0:=tC 0
 have r1:=tC 1
 have r2:=tC 2
 have r3:=tC 3
 simp only [List.getElem?_toArray,List.getElem?_cons_zero,List.getElem?_cons_succ] at a0 a1 a2 a3 r0 r1 r2 r3
 have BL:Hid (Blank W (w.heap.size+1)):=⟨r0,r1,r2,r3,fun j hj=>by rw [tC j];simp;omega⟩
 clear tA tC
 have HW:=hide hW
 have HB:=hide hB
 clear hW hB
 go_enter Tryz.func52,Tryz.ntmps52
 go_wp2_with fail
 rw [← unhide HW]
 obtain ⟨ga,hga⟩:∃ ga,ga=w.heap.size:=⟨_,rfl⟩
 obtain ⟨gr,hgr⟩:∃ gr,gr=w.heap.size+1:=⟨_,rfl⟩
 rw [← hga] at a0 a1 a2 a3
 rw [← hgr] at r0 r1 r2 r3 fz BL
 rw [← hgr,← hga]
 have HGR:Hid (w.heap.size≤gr):=by show _≤_;omega
 have nga:ga≠gr:=by omega
 clear hga hgr HW
 have grl:gr<W.heap.size:=lt_of_cell r0
 go_region_held (fun w'=>w'.cell? ⟨ga,0,none⟩=some (.bool s1)∧w'.cell? ⟨ga,1,none⟩=some (.int .u64 x1)∧w'.cell? ⟨ga,2,none⟩=some (.int .u64 y1)∧w'.cell? ⟨ga,3,none⟩=some (.pointer p1)) (first | go_keep | exact ⟨set4_cell _ _ _ _ _ _ _ _ _ nga m0,set4_cell _ _ _ _ _ _ _ _ _ nga m1,set4_cell _ _ _ _ _ _ _ _ _ nga m2,set4_cell _ _ _ _ _ _ _ _ _ nga m3⟩) (first
  | (go_at_call 50;refine (unhide CWH _).mono ?_;rintro e w1 ⟨rfl,hc1⟩;have B1:But [] W w1:=(by first | exact hc1 | exact (But.refl _ _).drew.trans' hc1);clear hc1;have k0:=B1.cell_some a0 (by simp);have k1:=B1.cell_some a1 (by simp);have k2:=B1.cell_some a2 (by simp);have k3:=B1.cell_some a3 (by simp))
  | (go_at_call 59;refine (unhide AD _ (by first | exact (unhide HFA).but ((unhide HB).trans' B1) | exact (unhide HFA).but (((unhide HB).trans' B1).trans' (But.refl _ _).drew))).mono ?_;rintro e w2 ⟨v2,rfl,hn2,hc2⟩;have B2:But [] W w2:=(by first | exact B1.trans' hc2 | exact B1.trans' ((But.refl _ _).drew.trans' hc2));have HN2:=hide hn2;obtain ⟨x8,y8,p8,rfl,-⟩:=hn2.agg;clear hc2;clear hn2;generalize decide ((1+f).num<0)=r8 at *;have m0:=B2.cell_some a0 (by simp);have m1:=B2.cell_some a1 (by simp);have m2:=B2.cell_some a2 (by simp);have m3:=B2.cell_some a3 (by simp);have u0:=B2.cell_some r0 (by simp);have u1:=B2.cell_some r1 (by simp);have u2:=B2.cell_some r2 (by simp);have u3:=B2.cell_some r3 (by simp);have uf:∀ j,w2.frozen? ⟨gr,j,none⟩=false:=fun j=>(B2.frozen (p:=⟨gr,j,none⟩) grl (by simp)).trans (fz j)))
 all_goals
  go_wp2
  have hBf:=(((((unhide HB).trans' B2).setCell (p:=⟨gr,0,none⟩) (.inr (unhide HGR)) (.bool r8)).setCell (p:=⟨gr,1,none⟩) (.inr (unhide HGR)) (.int .u64 x8)).setCell (p:=⟨gr,2,none⟩) (.inr (unhide HGR)) (.int .u64 y8)).setCell (p:=⟨gr,3,none⟩) (.inr (unhide HGR)) (.pointer p8)
  have hBg:But [gr] w2 ((((w2.setCell ⟨gr,0,none⟩ (.bool r8)).setCell ⟨gr,1,none⟩ (.int .u64 x8)).setCell ⟨gr,2,none⟩ (.int .u64 y8)).setCell ⟨gr,3,none⟩ (.pointer p8)):=(((((But.refl [gr] w2).setCell (.inl (by simp)) _).setCell (.inl (by simp)) _).setCell (.inl (by simp)) _).setCell (.inl (by simp)) _)
  exact bodyPost_ret (v:=.agg #[.bool r8,.int .u64 x8,.int .u64 y8,.pointer p8]) (by simp [results,Tryz.results52,go_sem,u0,u1,u2,u3]) rfl ⟨_,rfl,((unhide BL).but B2).frac (unhide HN2) hBg,hBf⟩
theorem divided_any (vf vg:Value) (f g:Rat) (w:World) (hf:FracAt w vf f) (hg:FracAt w vg g) (lf:Len f 1000000) (lg:Len g 1000000) (h0:g.num≠0) :
  Calls Tryz.prog 51 #[vf,vg] w fun e w'=>∃ v,e=.returned v∧FracAt w' v (f/g)∧But [] w w':=by
 have DV:Hid (∀ (W:World),FracAt W vf f→FracAt W vg g→Calls Tryz.prog 103 #[vf,vg] W fun e w'=>∃ v,e=.returned (.tuple #[v,.nilIface])∧FracAt w' v (f/g)∧But [] W w'):=fun W h1 h2=>fracDiv_any vf vg f g W h1 h2 lf lg h0
 have HFA:=hide hf
 have HGA:=hide hg
 obtain ⟨x1,y1,p1,rfl,-⟩:=hf.agg
 obtain ⟨x2,y2,p2,rfl,-⟩:=hg.agg
 clear hf hg lf lg h0
 generalize hsf:decide (f.num<0)=s1 at *
 generalize hsg:decide (g.num<0)=s2 at *
 clear hsf hsg
 obtain ⟨W,hW⟩:∃ W,W=(((w.alloc (.cells #[.bool s1,.int .u64 x1,.int .u64 y1,.pointer p1] 27)).alloc (.cells #[.bool s2,.int .u64 x2,.int .u64 y2,.pointer p2] 27)).alloc (.cells #[.bool false,.int .u64 0,.int .u64 0,.pointer none] 27)):=⟨_,rfl⟩
 obtain ⟨tA,tB,tC,fz,hB⟩:=three_new w W _ _ _ _ hW
 have a0:=tA 0
 have a1:=tA 1
 have a2:=tA 2
 have a3:=tA 3
 have b0:=tB 0
 have b1:=tB 1
 have b2:=tB 2
 have b3:=tB 3
 have r0:=tC 0
 have r1:=tC 1
 have r2:=tC 2
 have r3:=tC 3
 simp only [List.getElem?_toArray,List.getElem?_cons_zero,List.getElem?_cons_succ] at a0 a1 a2 a3 b0 b1 b2 b3 r0 r1 r2 r3
 have BL:Hid (Blank W (w.heap.size+2)):=⟨r0,r1,r2,r3,fun j hj=>by rw [tC j];simp;omega⟩
 clear tA tB tC
 have HW:=hide hW
 have HB:=hide hB
 clear hW hB
 go_enter Tryz.func51,Tryz.ntmps51
 go_wp2_with fail
 rw [← unhide HW]
 obtain ⟨ga,hga⟩:∃ ga,ga=w.heap.size:=⟨_,rfl⟩
 obtain ⟨gb,hgb⟩:∃ gb,gb=w.heap.size+1:=⟨_,rfl⟩
 obtain ⟨gr,hgr⟩:∃ gr,gr=w.heap.size+2:=⟨_,rfl⟩
 rw [← hga] at a0 a1 a2 a3
 rw [← hgb] at b0 b1 b2 b3
 rw [← hgr] at r0 r1 r2 r3 fz BL
 rw [show w.heap.size+1+1=w.heap.size+2 from rfl,← hgr,← hgb,← hga]
 have HGR:Hid (w.heap.size≤gr):=by show _≤_;omega
 clear hga hgb hgr HW
 have grl:gr<W.heap.size:=lt_of_cell r0
 refine (unhide DV _ ((unhide HFA).but (unhide HB)) ((unhide HGA).but (unhide HB))).mono ?_
 rintro e w2 ⟨v2,rfl,hn2,hc2⟩
 have HN2:=hide hn2
 obtain ⟨x8,y8,p8,rfl,-⟩:=hn2.agg
 clear hn2
 generalize decide ((f/g).num<0)=r8 at *
 have u0:=hc2.cell_some r0 (by simp)
 have u1:=hc2.cell_some r1 (by simp)
 have u2:=hc2.cell_some r2 (by simp)
 have u3:=hc2.cell_some r3 (by simp)
 have uf:∀ j,w2.frozen? ⟨gr,j,none⟩=false:=fun j=>(hc2.frozen (p:=⟨gr,j,none⟩) grl (by simp)).trans (fz j)
 have B2:=hide hc2
 have gl2:gr<w2.heap.size:=lt_of_cell u0
 clear hc2 a0 a1 a2 a3 b0 b1 b2 b3 r0 r1 r2 r3 fz grl
 go_wp2
 have hBg:But [gr] w2 ((((w2.setCell ⟨gr,0,none⟩ (.bool r8)).setCell ⟨gr,1,none⟩ (.int .u64 x8)).setCell ⟨gr,2,none⟩ (.int .u64 y8)).setCell ⟨gr,3,none⟩ (.pointer p8)):=(((((But.refl [gr] w2).setCell (.inl (by simp)) _).setCell (.inl (by simp)) _).setCell (.inl (by simp)) _).setCell (.inl (by simp)) _)
 have hBf:=(((((unhide HB).trans' (unhide B2)).trans hBg (fun x hx=>by simp at hx;subst hx;exact .inr (unhide HGR)))).alloc (.cells #[.bool r8,.int .u64 x8,.int .u64 y8,.pointer p8] 27))
 exact bodyPost_ret (v:=.agg #[.bool r8,.int .u64 x8,.int .u64 y8,.pointer p8]) (by simp [results,Tryz.results51,go_sem,u0,u1,u2,u3,gl2]) rfl ⟨_,rfl,(((unhide BL).but (unhide B2)).frac (unhide HN2) hBg).but ((But.refl _ _).alloc _),hBf⟩
end Go.Proofs.YtollloafckcogaaGreatDoor
