/- Whole numbers as fractions.  -/
import Derived.Test.YtagmkkiagjmimaaGreatDoorXBX
import Derived.Test.YtagmkkiagjmimaaGreatDoorXF11
namespace Go.Proofs.YtagmkkiagjmimaaGreatDoor
set_option linter.unusedVariables false
open Go.Proofs.Tryz
open Go.RowKit
theorem bp (n:Int):((n:Int):Rat).num=n∧((n:Int):Rat).den=1:=⟨by simp,by simp⟩
theorem zfn (n:Int) (h:n.natAbs < 18446744073709551616):Len ((n:Int):Rat) 1:=by
 obtain⟨h1,h2⟩:=bp n
 exact zpk (m:=1) (n:=1) (by rw[h1,Nat.pow_one];exact h) (by rw[h2];decide) 1 (Nat.le_refl _) (Nat.le_refl _)
theorem zda (x:Int) (h1:-9223372036854775808≤x) (h2:x<9223372036854775808) :
   ∃ (r:Bool) (p:Int),(∀ W,au W (.agg #[.bool r,.int .u64 p,.int .u64 0,.pointer none]) ((x:Int):Rat))∧∀ W,Calls prog 79 #[.int .i64 x] W fun e w'=>e=.returned (.agg #[.bool r,.int .u64 p,.int .u64 0,.pointer none])∧But [] W w':=by(
 obtain⟨e1,e2⟩:=bp x
 refine⟨decide (x<0),((x.natAbs:Nat):Int),fun W=>.inl ⟨by rw[e1];omega,by rw[e2];decide,by rw[e1,e2];rfl⟩,fun W=>?_⟩
 have h:=zxi x h1 h2 W
 rw[show (((1:Nat):Int)-1)=0 from rfl] at h
 exact h)
theorem zzh (x:Rat):x*((x.den:Int):Rat)=((x.num:Int):Rat):=by(
 obtain⟨i1,i2⟩:=bp (x.den:Int)
 obtain⟨j1,j2⟩:=bp x.num
 have h:=zfp x ((x.den:Int):Rat)
 rw[i1,i2,Nat.mul_one] at h
 have hd:=den_pos x
 obtain⟨e1,e2⟩:=zbl x.num 1 (by omega) (by simp) (x*((x.den:Int):Rat)) (by
  refine Int.eq_of_mul_eq_mul_right (show (x.den:Int)≠0 by omega) ?_
  grind)
 exact Rat.ext (by rw[e1,j1]) (by rw[e2,j2]))
theorem int_ne (z:Int) (h:z≠0):((z:Int):Rat)≠0:=fun e=>h (by
 have:=congrArg Rat.num e
 rwa [(bp z).1] at this)
def qf (q:Int × Int):Rat:=((q.1:Int):Rat)/(((if q.2=0 then 1 else q.2):Int):Rat)
theorem qfe (f:Rat) (q:Int × Int) (h:f.num*(if q.2=0 then 1 else q.2)=q.1*f.den):f=qf q:=by(
 unfold qf
 have hy:(if q.2=0 then (1:Int) else q.2)≠0:=by split <;> omega
 generalize (if q.2=0 then (1:Int) else q.2)=y at *
 have h1:=zzh f
 have h2:((f.num*y:Int):Rat)=((q.1*(f.den:Int):Int):Rat):=by rw[h]
 rw[Rat.intCast_mul,Rat.intCast_mul] at h2
 have hd:=int_ne (f.den:Int) (by have:=den_pos f;omega)
 have hy':=int_ne y hy
 generalize ((y:Int):Rat)=Y at *
 generalize ((f.den:Int):Rat)=D at *
 generalize ((f.num:Int):Rat)=M at *
 generalize ((q.1:Int):Rat)=X at *
 rw[← h1] at h2
 grind)
def Fits (q:Int × Int):Prop:=-9223372036854775808≤q.1∧q.1<9223372036854775808∧-9223372036854775808≤q.2∧q.2<9223372036854775808
theorem znm (q:Int × Int) (h:Fits q):∃ (r:Bool) (x y:Int),Len (qf q) 1∧(∀ W,au W (.agg #[.bool r,.int .u64 x,.int .u64 y,.pointer none]) (qf q))∧∀ W,Calls prog 9 #[.agg #[.int .i64 q.1,.int .i64 q.2]] W fun e w'=>e=.returned (.agg #[.bool r,.int .u64 x,.int .u64 y,.pointer none])∧But [] W w':=by(
 obtain⟨f,r,x,y,h1,h2,h3,h4⟩:=zlh q.1 q.2 h.1 h.2.1 h.2.2.1 h.2.2.2
 have e:=qfe f q h2
 subst e
 exact⟨r,x,y,h1,h3,h4⟩)
def zqg (w:World) (v:Value) (qs:List (Int × Int)):Prop:=∃ a cap,v=.slice a qs.length cap∧qs.length≤cap∧∀ i q,qs[i]? = some q→∃ b off,a=some ⟨b,off,none⟩∧w.cell? ⟨b,off+i*2,none⟩=some (.int .i64 q.1)∧w.cell? ⟨b,off+i*2+1,none⟩=some (.int .i64 q.2)
theorem zqg.but {w w':World} {v:Value} {qs:List (Int × Int)} (h:zqg w v qs) (hb:But [] w w'):zqg w' v qs:=by(
 obtain⟨a,cap,e,hc,h⟩:=h
 refine⟨a,cap,e,hc,fun i q hq=>?_⟩
 obtain⟨b,off,e1,h1,h2⟩:=h i q hq
 exact⟨b,off,e1,hb.ag h1 (by simp),hb.ag h2 (by simp)⟩)
theorem zte (w:World) (base:Nat) (v:Value) (k:Nat) (vs:List Value) (hown:w.ownsRow base 27 4 v k (eu vs)) (g:Nat) (s:Bool) (x y:Int) (p:Option Addr) (c:P4 w g s x y p) (hk:k<1000000) (hb:base≤w.heap.size) :
   ∃ v' w',(Builtin.append_ #[46,46] 46 #[v,.slice (some ⟨g,0,none⟩) 1 1]).run prog w=.ok v' w'∧w'.ownsRow base 27 4 v' (k+1) (eu (vs++[.agg #[.bool s,.int .u64 x,.int .u64 y,.pointer p]]))∧w.grownBy w' v.ownBlock:=by(
 obtain⟨i0,hi,hz0,hz1,hz2⟩:=zio
 obtain⟨v',w',hr,ho,hg,-⟩:=run_append_own (P:=prog) w base 46 46 27 i0 _ 4 32 underlying46 hi hz0 hz1 hz2 rfl (by decide) v k (eu vs) hown ⟨g,0,none⟩ 1 1 [.bool s,.int .u64 x,.int .u64 y,.pointer p] rfl (fun j u hj=>by
   have:j=0∨j=1∨j=2∨j=3∨4≤j:=by omega
   obtain⟨c0,c1,c2,c3⟩:=c
   rcases this with rfl|rfl|rfl|rfl | h4
   ·simp at hj;subst hj;exact c0
   ·simp at hj;subst hj;exact c1
   ·simp at hj;subst hj;exact c2
   ·simp at hj;subst hj;exact c3
   ·rw[List.getElem?_eq_none (by simpa using h4)] at hj;simp at hj) (fun u hu=>by
   simp only[List.mem_cons,List.not_mem_nil,or_false] at hu
   rcases hu with rfl|rfl|rfl|rfl <;> rfl) (by unfold maxLen;omega) (by omega) hb
 refine⟨v',w',hr,?_,hg⟩
 rw[zmt]
 exact ho)
end Go.Proofs.YtagmkkiagjmimaaGreatDoor
