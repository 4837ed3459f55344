/- A row of fractions that is being told.  -/
import Derived.Test.YtagmkkiagjmimaaGreatDoorYOGr
import Derived.Test.YtagmkkiagjmimaaGreatDoorYRJ
namespace Go.Proofs.YtagmkkiagjmimaaGreatDoor
open Go.RowKit
set_option linter.unusedVariables false
structure zxc (w:World) (g n i:Nat) (F:Nat→Rat):Prop where
 blank:∀ j,i≤j→j<n→P4o w g (j*4) false 0 0 none
 told:∀ j,j<i→zgw w g (j*4) (F j)
 loose:∀ o,w.frozen? ⟨g,o,none⟩=false
theorem zxc.made (w:World) (n:Nat) (F:Nat→Rat):zxc (w.alloc (.cells (madeCells #[Value.bool false,.int .u64 0,.int .u64 0,.pointer none] (n*4)) 27)) w.heap.size n 0 F:=by(
 have hc:∀ j k,j<n→k<4→(w.alloc (.cells (madeCells #[Value.bool false,.int .u64 0,.int .u64 0,.pointer none] (n*4)) 27)).cell? ⟨w.heap.size,j*4+k,none⟩=(#[Value.bool false,.int .u64 0,.int .u64 0,.pointer none]:Array Value)[k]?:=fun j k hj hk=>by
  rw[World.cell?_alloc_new,qaj n _ (by omega),show (j*4+k)%4=k from by omega]
 exact⟨fun j _ hj=>⟨hc j 0 hj (by omega),hc j 1 hj (by omega),hc j 2 hj (by omega),hc j 3 hj (by omega)⟩,fun j hj=>by omega,fun o=>by simp⟩)
theorem zxc.ztw {w:World} {g n:Nat} {F:Nat→Rat} (h:zxc w g n n F):au w (.slice (some ⟨g,0,none⟩) n n) ((List.range n).map F) :=
 ⟨some ⟨g,0,none⟩,n,by simp,by simp,fun i f hf=>by
  rw[List.getElem?_map] at hf
  by_cases hi:i<n
  ·rw[List.getElem?_range hi] at hf
   simp only[Option.map_some,Option.some.injEq] at hf
   subst hf
   exact⟨g,0,rfl,by rw[Nat.zero_add];exact h.told i hi⟩
  ·rw[List.getElem?_eq_none (by simp;omega)] at hf
   simp at hf⟩
theorem zqa (f:Rat):f*((f.den:Int):Rat)=((f.num:Int):Rat):=by(
 have h0:((f.den:Int):Rat)≠0:=fun h=>by
  have h2:((f.den:Int):Rat)=((0:Int):Rat):=h
  have:=Rat.intCast_inj.1 h2
  have:=den_pos f
  omega
 have h2:=Rat.div_mul_cancel (a:=((f.num:Int):Rat)) h0
 rw[← Rat.divInt_eq_div,Rat.num_divInt_den] at h2
 exact h2)
structure zac (w:World) (g n:Nat) (F:Nat→Rat):Prop where
 told:∀ j,j<n→zgw w g (j*4) (F j)
 loose:∀ o,w.frozen? ⟨g,o,none⟩=false
theorem zac.made (w:World) (n:Nat):zac (w.alloc (.cells (madeCells #[Value.bool false,.int .u64 0,.int .u64 0,.pointer none] (n*4)) 27)) w.heap.size n (fun _=>0) :=
 ⟨fun j hj=>⟨false,0,0,none,(zxc.made w n (fun _=>0)).blank j (Nat.zero_le _) hj,yw _⟩,(zxc.made w n (fun _=>0)).loose⟩
theorem zac.but {w w':World} {g n:Nat} {F:Nat→Rat} (h:zac w g n F) (hb:But [] w w') (hg:g<w.heap.size):zac w' g n F :=
 ⟨fun j hj=>(h.told j hj).but hb,fun o=>(hb.frozen (p:=⟨g,o,none⟩) hg (by simp)).trans (h.loose o)⟩
theorem zac.bool {w:World} {g n:Nat} {F:Nat→Rat} (h:zac w g n F) (h0:0<n):∃ s,w.cell? ⟨g,0,none⟩=some (.bool s):=by(
 obtain⟨s,x,y,p,a,-⟩:=h.told 0 h0
 rw[Nat.zero_mul] at a
 exact⟨_,a.1⟩)
def zvf (F:Nat→Rat) (t:Nat) (v:Rat):Nat→Rat:=fun j=>if j=t then v else F j
theorem zac.set {w:World} {g n i:Nat} {F:Nat→Rat} (h:zac w g n F) (hi:i<n) (s1:Bool) (x1 y1:Int) (p1:Option Addr) (v:Rat) (h1:aq w (.agg #[.bool s1,.int .u64 x1,.int .u64 y1,.pointer p1]) v) :
   zac (w.setCells g (i*4) [.bool s1,.int .u64 x1,.int .u64 y1,.pointer p1]) g n (zvf F i v):=by(
 obtain⟨c,hc⟩:=h.bool (by omega)
 obtain⟨s0,x0,y0,p0,a1,-⟩:=h.told i hi
 have hb:=bl w g [.bool s1,.int .u64 x1,.int .u64 y1,.pointer p1] (i*4)
 have some4:∀ k,k<4→(w.cell? ⟨g,i*4+k,none⟩).isSome=true:=fun k hk=>by
  have:k=0∨k=1∨k=2∨k=3:=by omega
  rcases this with rfl|rfl|rfl|rfl
  ·rw[show i*4+0=i*4 from rfl,a1.1];rfl
  ·rw[a1.2.1];rfl
  ·rw[a1.2.2.1];rfl
  ·rw[a1.2.2.2];rfl
 have hin:∀ k (hk:k<4),(w.setCells g (i*4) [.bool s1,.int .u64 x1,.int .u64 y1,.pointer p1]).cell? ⟨g,i*4+k,none⟩=some ([Value.bool s1,.int .u64 x1,.int .u64 y1,.pointer p1][k]'hk):=fun k hk =>
  World.cell?_setCells_in g [.bool s1,.int .u64 x1,.int .u64 y1,.pointer p1] (i*4) w (fun j hj=>some4 j hj) k hk
 have hout:∀ o,o<i*4∨i*4+4≤o→(w.setCells g (i*4) [.bool s1,.int .u64 x1,.int .u64 y1,.pointer p1]).cell? ⟨g,o,none⟩=w.cell? ⟨g,o,none⟩:=fun o ho=>World.cell?_setCells_out g _ (i*4) w _ (fun _ _=>by simp;omega)
 have keep:∀ o s x y p,o+4≤i*4∨i*4+4≤o→P4o w g o s x y p→P4o (w.setCells g (i*4) [.bool s1,.int .u64 x1,.int .u64 y1,.pointer p1]) g o s x y p:=fun o s x y p ho hp=>⟨(hout o (by omega)).trans hp.1,(hout (o+1) (by omega)).trans hp.2.1,(hout (o+2) (by omega)).trans hp.2.2.1,(hout (o+3) (by omega)).trans hp.2.2.2⟩
 have hfr:∀ {v f},aq w v f→aq (w.setCells g (i*4) [.bool s1,.int .u64 x1,.int .u64 y1,.pointer p1]) v f:=fun hf=>hf.over hc hb
 refine⟨fun j hj=>?_,fun o=>by rw[World.frozen?_setCells];exact h.loose o⟩
 unfold zvf
 by_cases e:j=i
 ·subst e
  rw[if_pos rfl]
  exact⟨s1,x1,y1,p1,⟨hin 0 (by omega),hin 1 (by omega),hin 2 (by omega),hin 3 (by omega)⟩,hfr h1⟩
 ·rw[if_neg e]
  obtain⟨t1,u1,v1,q1,b1,f1⟩:=h.told j hj
  exact⟨t1,u1,v1,q1,keep _ _ _ _ _ (by omega) b1,hfr f1⟩)
theorem zac.ztw {w:World} {g n:Nat} {F:Nat→Rat} (h:zac w g n F):au w (.slice (some ⟨g,0,none⟩) n n) ((List.range n).map F) :=
 zxc.ztw ⟨fun j h1 h2=>by omega,h.told,h.loose⟩
theorem zac.congr {w:World} {g n:Nat} {F G:Nat→Rat} (h:zac w g n F) (e:∀ j,j<n→F j=G j):zac w g n G :=
 ⟨fun j hj=>by rw[← e j hj];exact h.told j hj,h.loose⟩
end Go.Proofs.YtagmkkiagjmimaaGreatDoor
