/- The built-in copy between rows of words, -/
import Derived.Laws.CopyOwn
import Derived.Test.YtjlfllhedceigaaGreatDoorProg
import Derived.WalkKit
import Derived.Deep.QuietTactic
import Derived.BigQuiet
import Derived.Test.YtjlfllhedceigaaGreatDoorRBase
namespace Go.Proofs.YtjlfllhedceigaaGreatDoor
set_option linter.unusedVariables false
open Go.Proofs.Tryz
open Go.RowKit
set_option maxHeartbeats 400000
theorem zoo (xs:List Nat) (j:Nat) (v:Value) (h:(xs.map fun (x:Nat)=>Value.int .u64 (x:Int))[j]? = some v):j<xs.length∧v=.int .u64 (xs[j]?.getD 0:Nat):=by(
 simp only[List.getElem?_map,Option.map_eq_some_iff] at h
 obtain⟨x,hx,rfl⟩:=h
 exact⟨(List.getElem?_eq_some_iff.1 hx).1,by rw[hx];rfl⟩)
theorem addr_add (b off j:Nat):(⟨b,off,none⟩:Addr).add j=⟨b,off+j,none⟩:=by by_cases h:j=0 <;> simp[Addr.add,h]
theorem bn (w:World) (g:Nat):∀ (vs:List Value) (o:Nat),But [g] w (w.setCells g o vs)
 | [],_=>But.refl _ _
 | v::vs,o=>by
  rw[World.setCells]
  exact ((But.refl [g] w).setCell (p:=⟨g,o,none⟩) (by simp) v).trans (bn _ g vs (o+1)) (fun _ h=>.inl h)
theorem zdw (g:Nat):∀ (xs:List Nat) (o:Nat) (w:World),Ints .u64 w g→Ints .u64 (w.setCells g o (xs.map fun (x:Nat)=>Value.int .u64 (x:Int))) g
 | [],_,_,h=>h
 | x::xs,o,w,h=>by
  rw[List.map_cons,World.setCells]
  exact zdw g xs (o+1) _ (h.set o x)
theorem zyv {w:World} {g o:Nat} {rs:List Nat} (h:Seg w g o rs) (xs:List Nat) (hl:xs.length≤rs.length) :
   Seg (w.setCells g o (xs.map fun (x:Nat)=>Value.int .u64 (x:Int))) g o (xs++rs.drop xs.length)∧Part g o xs.length w (w.setCells g o (xs.map fun (x:Nat)=>Value.int .u64 (x:Int))):=by(
 refine⟨⟨fun i hi=>⟨?_,?_⟩,fun h0=>zdw _ _ _ _ (h.ints (by simp only[List.length_append,List.length_drop] at h0;omega))⟩,bn _ _ _ _,fun i hi=>?_,fun i=>World.frozen?_setCells _ _ _ _ _⟩
 ·(
 simp only[List.length_append,List.length_drop] at hi
 rcases Nat.lt_or_ge i xs.length with h1 | h1
 ·have:=World.cell?_setCells_in g (xs.map fun (x:Nat)=>Value.int .u64 (x:Int)) o w (fun j hj=>by rw[(h j (by simp at hj;omega)).1];rfl) i (by simpa using h1)
  rw[this,List.getElem?_append_left h1]
  simp[List.getElem?_eq_getElem h1]
 ·rw[World.cell?_setCells_out g _ o w _ (fun _ _=>.inr (by simp;omega)),(h i (by omega)).1,List.getElem?_append_right h1,List.getElem?_drop,show xs.length+(i-xs.length)=i from by omega])
 ·simp only[List.length_append,List.length_drop] at hi
  rw[World.frozen?_setCells];exact (h i (by omega)).2
 ·exact World.cell?_setCells_out g _ o w _ (fun _ _=>by simp;omega))
theorem qz {P:Program} (w:World) (dT sT elem:TypeId) (hu:P.underlying dT=some (.slice elem)) (hsz:(P.info? elem).map (·.size)=some 1)
   (g off dLen dCap:Nat) (vs:Value) (rs xs:List Nat) (hg:Seg w g off rs) (hr:dLen=rs.length) (hx:Sl .u64 w vs xs) (hl:xs.length≤rs.length) :
   ∃ w',(∀ ty,(Builtin.copy_ #[dT,sT] ty #[.slice (some ⟨g,off,none⟩) dLen dCap,vs]).run P w=.ok (goInt xs.length) w')∧Hid (Seg w' g off (xs++rs.drop xs.length)∧Part g off xs.length w w'):=by(
 obtain⟨ad,cap,rfl,-,hc,-⟩:=hx
 subst hr
 rcases Nat.eq_zero_or_pos xs.length with h0 | h0
 ·have e:xs=[]:=List.length_eq_zero_iff.1 h0
  subst e
  exact⟨w,fun ty=>run_copy_none w dT sT ty elem _ _ _ _ _ _ hu hsz (by simp),by simpa using hg,Part.refl _ _ _ _⟩
 ·(
 obtain⟨b,off',rfl,-⟩:=hc 0 h0
 refine⟨_,fun ty=>?_,zyv hg xs hl⟩
 have hrun:=run_copy_cells (P:=P) w dT sT ty elem g off rs.length dCap ⟨b,off',none⟩ xs.length cap (xs.map fun (x:Nat)=>Value.int .u64 (x:Int)) hu hsz (by rw[List.length_map];exact (Nat.min_eq_left hl).symm)
  (fun j v hj=>by
   obtain⟨h1,rfl⟩:=zoo xs j v hj
   obtain⟨b2,off2,e,h2⟩:=hc j h1
   simp only[Option.some.injEq,Addr.mk.injEq] at e
   obtain⟨rfl,rfl,-⟩:=e
   rw[addr_add];exact h2)
  (fun j hj=>by rw[(hg j (by simp at hj;omega)).1];rfl) (fun j hj=>(hg j (by simp at hj;omega)).2) (fun v hv=>by
   simp only[List.mem_map] at hv
   obtain⟨x,-,rfl⟩:=hv
   rfl)
 rw[List.length_map] at hrun
 exact hrun))
theorem zoq (x y:Nat) (w:World) (hx:x<18446744073709551616) (hy:y<18446744073709551616) :
   Calls prog 111 #[.int .u64 x,.int .u64 y] w fun e w'=>e=.returned (.int .u64 (Nat.gcd x y:Nat))∧∃ n,w'=w.drewN n:=by(
 go_enter func111,ntmps111
 go_wp2
 go_loopw [0,1] (fun a b w'=>∃ p q:Nat,a=.int .u64 p∧b=.int .u64 q∧p<18446744073709551616∧q<18446744073709551616∧Hid (Nat.gcd p q=Nat.gcd x y)∧∃ n,w'=w.drewN n) (fun _ b _=>(intOf b).toNat)
 case atStart=>exact⟨x,y,rfl,rfl,hx,hy,(rfl:Nat.gcd x y=Nat.gcd x y),0,rfl⟩
 case round =>(
 obtain⟨p,q,rfl,rfl,hp,hq,hg,n,rfl⟩:=hrel
 by_cases h0:q=0
 ·subst h0
  go_wp2
  go_ret
  exact⟨by rw[← hg.out];simp,n,rfl⟩
 ·(
 have hb:((q:Int)==0)=false:=by simp;exact h0
 have hn:((q:Int) != 0)=true:=by simp;exact h0
 go_wp2
 go_quiet (fail)
 go_roundw
 case rel =>(
 refine⟨_,_,_,_,_,_,_,_,⟨q,p%q,rfl,?_,hq,?_,?_,n+nq,?_⟩,rfl⟩
 ·rw[Int.natCast_emod]
 ·exact Nat.lt_trans (Nat.mod_lt _ (Nat.pos_of_ne_zero h0)) hq
 ·show Nat.gcd q (p%q)=Nat.gcd x y
  rw[← hg.out,Nat.gcd_comm p q,Nat.gcd_rec q p,Nat.gcd_comm]
 ·exact World.drewN_drewN _ _ _)
 case measure =>(
 simp[intOf]
 have:=Nat.mod_lt p (Nat.pos_of_ne_zero h0)
 omega))))
end Go.Proofs.YtjlfllhedceigaaGreatDoor
