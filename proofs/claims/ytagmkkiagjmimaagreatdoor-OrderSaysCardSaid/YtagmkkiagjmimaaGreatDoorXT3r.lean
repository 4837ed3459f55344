/- Rows of a call's own stay, and what is k -/
import Derived.Test.YtagmkkiagjmimaaGreatDoorXBW
namespace Go.Proofs.YtagmkkiagjmimaaGreatDoor
open Go.RowKit
set_option linter.unusedVariables false
theorem ownsRow_form {w:World} {base:Nat} {e:TypeId} {size:Nat} {v:Value} {n:Nat} {xs:List Value} (h:w.ownsRow base e size v n xs):∃ a c,v=.slice a n c:=by(
 rcases h.2 with ⟨rfl,h0⟩|⟨g,cap,cur,rfl,-⟩
 ·exact⟨none,0,by rw[h0]⟩
 ·exact⟨_,_,rfl⟩)
theorem l9 {w0 w w':World} {base:Nat} {e:TypeId} {size:Nat} {v:Value} {n:Nat} {xs:List Value} (h:But [] w0 w) (ho:w.ownsRow base e size v n xs) (hb:w0.heap.size≤base) (hg:w.grownBy w' v.ownBlock):But [] w0 w' :=
 ⟨hg.os.trans h.os,hg.tape.trans h.tape,hg.output.trans h.output,Nat.le_trans h.size hg.size,fun k hk _=>by
  rw[hg.block k (Nat.lt_of_lt_of_le hk h.size) (fun e=>by have:=(ho.lt k e.symm).1;omega)]
  exact h.block k hk (by simp)⟩
theorem zai {w w':World} {base:Nat} {e:TypeId} {size:Nat} {v:Value} {n:Nat} {xs:List Value} (h:w.ownsRow base e size v n xs) (hb:But [] w w'):w'.ownsRow base e size v n xs :=
 h.kept (row:=none) ⟨hb.os,hb.tape,hb.output,hb.size,fun k hk _=>hb.block k hk (by simp)⟩ (by
  by_cases h0:v.ownBlock=none
  ·exact .inl h0
  ·exact .inr h0)
theorem zpb {w:World} {b0 b1:Nat} {e:TypeId} {size:Nat} {v:Value} {n:Nat} {xs:List Value} (h:w.ownsRow b1 e size v n xs) (hb:b0≤b1):w.ownsRow b0 e size v n xs:=by(
 refine⟨h.1,?_⟩
 rcases h.2 with h|⟨g,cap,cur,e1,h2,h3⟩
 ·exact .inl h
 ·exact .inr ⟨g,cap,cur,e1,Nat.le_trans hb h2,h3⟩)
theorem zfu {w:World} {b0 b1:Nat} {e0 e1:TypeId} {s0 s1:Nat} {u v:Value} {n m:Nat} {xs ys:List Value} (h0:w.ownsRow b0 e0 s0 u n xs) (h1:w.ownsRow b1 e1 s1 v m ys) (hne:e0≠e1):u.ownBlock=none∨u.ownBlock≠v.ownBlock:=by(
 rcases h0.2 with ⟨rfl,-⟩|⟨g,cap,cur,rfl,-,hg,-⟩
 ·exact .inl rfl
 ·(
 rcases h1.2 with ⟨rfl,-⟩|⟨g',cap',cur',rfl,-,hg',-⟩
 ·exact .inr (by simp[Value.ownBlock])
 ·(
 refine .inr (fun e=>hne ?_)
 simp only[Value.ownBlock,Option.some.injEq] at e
 subst e
 rw[hg] at hg'
 simp only[Option.some.injEq,Obj.cells.injEq] at hg'
 exact hg'.2.1)))
end Go.Proofs.YtagmkkiagjmimaaGreatDoor
