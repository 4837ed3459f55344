/- The reference's sum of a list.  -/
import Derived.Test.YtffghofheeleeaaGreatDoorKHPbqS
import Derived.Test.YtffghofheeleeaaGreatDoorKLXqS
namespace Go.Proofs.YtffghofheeleeaaGreatDoor
open Go.Proofs.Tryz
open Go.RowKit
set_option maxHeartbeats 16000000
set_option maxRecDepth 100000
set_option linter.unusedVariables false
def rz (w:World) (b:Nat) (f:Rat):Prop:=za w b f∨(f=0∧qz w b)
theorem rz.but {w w':World} {b:Nat} {f:Rat} (h:rz w b f) (hb:But [] w w'):rz w' b f:=h.elim (fun h=>.inl (h.but hb)) (fun ⟨e,h⟩=>.inr ⟨e,h.but hb⟩)
theorem qqq (xb yb:Nat) (f g:Rat) (w:World) (hx:rz w xb f) (hy:za w yb g) (lf:zu f 2000000) (lg:zu g 2000000) :
  Calls prog 51 #[.pointer (some ⟨xb,0,none⟩),.pointer (some ⟨yb,0,none⟩)] w fun e w'=>∃ zb,e=.returned (.pointer (some ⟨zb,0,none⟩))∧za w' zb (f+g)∧But [] w w':=by
 rcases hx with h|⟨h0,h⟩
 ·exact zai xb yb f g w h hy lf lg
 ·exact (zwb xb yb f g w h0 h hy lf lg).mono fun e w' ⟨zb,he,hb,hr,_⟩=>⟨zb,he,hr,hb⟩
theorem qcz (v:Value) (fs:List Rat) (F:Nat→Rat) (w:World) (hr:jr w v fs) (hF:∀ i,i<fs.length→fs[i]? = some (F i)) (hn:fs.length≤1000) (lf:∀ i,i<fs.length→zu (F i) 2000000) (ls:∀ k,k≤fs.length→zu (sgR F k) 2000000) :
  Calls prog 68 #[v] w fun e w'=>∃ zb,e=.returned (.pointer (some ⟨zb,0,none⟩))∧rz w' zb (sgR F fs.length)∧But [] w w':=by
 have hcell:∀ W,But [] w W→∀ i,i<fs.length→∃ b off g,(∃ a c,v=.slice a fs.length c∧a=some ⟨b,off,none⟩)∧W.cell? ⟨b,off+i,none⟩=some (.pointer (some ⟨g,0,none⟩))∧za W g (F i):=fun W hb i hi=>by
  obtain⟨a,cap,e,-⟩:=hr.open
  have h0:=hr.but hb
  rw[e] at h0
  obtain⟨-,b,off,g,f,h1,h2,h3,h4⟩:=h0.at i hi
  rw[hF i hi] at h3
  obtain rfl:=Option.some.inj h3
  exact⟨b,off,g,⟨a,cap,e,h1⟩,h2,h4⟩
 obtain⟨a,cap,rfl,hcap⟩:=hr.open
 have HV:=af hcell
 have HL:=af lf
 have HS:=af ls
 clear hcell hr hF lf ls
 generalize fs.length=n at *
 have hb0:=znu w 103
 have bW:But [] w (w.alloc (.cells #[.bool false,.slice none 0 0,.bool false,.slice none 0 0] 103)):=(But.refl _ _).alloc _
 obtain⟨W,hW⟩:∃ W,W=w.alloc (.cells #[.bool false,.slice none 0 0,.bool false,.slice none 0 0] 103):=⟨_,rfl⟩
 rw[← hW] at hb0 bW
 obtain⟨g0,hg0⟩:∃ g,g=w.heap.size:=⟨_,rfl⟩
 rw[← hg0] at hb0
 have I0:Hid (rz W g0 (sgR F 0)∧But [] w W):=⟨.inr ⟨rfl,hb0⟩,bW⟩
 have HW:=af hW
 clear hW hb0 bW
 go_enter func68,ntmps68
 go_wp2
 rw[← ae HW,← hg0]
 clear HW hg0
 go_loopw [3,9] (fun p i wr=>∃ (k pb:Nat),k≤n∧i=.int .i64 (k:Int)∧p=.pointer (some ⟨pb,0,none⟩)∧Hid (rz wr pb (sgR F k)∧But [] w wr)) (fun _ i _=>n-(intOf i).toNat)
 case atStart=>exact⟨0,g0,Nat.zero_le _,rfl,rfl,ae I0⟩
 case round =>
  obtain⟨k,pb,hk,rfl,rfl,HI⟩:=hrel
  rename World=>wr
  clear I0
  by_cases hlt:k<n
  ·obtain⟨b,off,g,⟨a',c',e',ea⟩,c0,hT⟩:=ae HV wr (ae HI).2 k hlt
   simp only[Value.slice.injEq] at e'
   obtain⟨rfl,-,-⟩:=e'
   subst ea
   have AD:=af (qqq pb g (sgR F k) (F k) wr (ae HI).1 hT (ae HS k (by omega)) (ae HL k hlt))
   clear hT
   go_wp2_with fail
   refine (ae AD).mono ?_
   rintro e w2 ⟨g2,rfl,h2,hb2⟩
   have NS:Hid (rz w2 g2 (sgR F (k+1))∧But [] w w2):=⟨.inl h2,(ae HI).2.trans' hb2⟩
   clear h2 hb2 AD
   go_wp2
   exact⟨⟨k+1,g2,by omega,by go_num,rfl,ae NS⟩,by simp[intOf];omega⟩
  ·obtain rfl:k=n:=by omega
   go_wp2
   go_ret
   exact⟨pb,rfl,ae HI⟩
theorem zbx {F:Nat→Rat} {c:Nat}:∀ n,(∀ i,i<n→zu (F i) c)→zu (sgR F n) (n*(c+1)+1)
 | 0,_=>by
  have:=zu.int (z:=0) (by decide)
  exact⟨by show (wd 4294967296 0).length≤_;rw[zq];simp,by show (wd 4294967296 1).length≤_;exact Nat.le_trans (aj (B:=4294967296) (by omega) 1 1 (by omega)) (by omega)⟩
 | n+1,h=>((zbx n (fun i hi=>h i (by omega))).add (h n (by omega))).mono (by rw[Nat.succ_mul];omega)
theorem qdb {w:World} {v:Value} {fs:List Rat} {F:Nat→Rat} (hr:jr w v fs) (hF:∀ i,i<fs.length→fs[i]? = some (F i)):∃ a cap,v=.slice a fs.length cap∧fs.length≤cap∧∀ W,But [] w W→∀ i,i<fs.length→∃ b off g,a=some ⟨b,off,none⟩∧W.cell? ⟨b,off+i,none⟩=some (.pointer (some ⟨g,0,none⟩))∧za W g (F i):=by
 obtain⟨a,cap,e,hc⟩:=hr.open
 refine⟨a,cap,e,hc,fun W hb i hi=>?_⟩
 have h0:=hr.but hb
 rw[e] at h0
 obtain⟨-,b,off,g,f,h1,h2,h3,h4⟩:=h0.at i hi
 rw[hF i hi] at h3
 obtain rfl:=Option.some.inj h3
 exact⟨b,off,g,h1,h2,h4⟩
theorem zwa (xb yb:Nat) (f g q:Rat) (w:World) (hx:rz w xb f) (hy:za w yb g) (lf:zu f 2000000) (lg:zu g 2000000) (hg0:g.num≠0) (hq:q*g=f) :
  Calls prog 59 #[.pointer (some ⟨xb,0,none⟩),.pointer (some ⟨yb,0,none⟩)] w fun e w'=>∃ zb,e=.returned (.pointer (some ⟨zb,0,none⟩))∧za w' zb q∧But [] w w':=by
 rcases hx with h|⟨h0,h⟩
 ·exact zfn xb yb f g q w h hy lf lg hg0 hq
 ·have hq0:q=0:=by
   have hne:g≠0:=fun e=>hg0 (by rw[e];rfl)
   rw[h0] at hq
   rcases Rat.mul_eq_zero.1 hq with h | h
   ·exact h
   ·exact absurd h hne
  rw[hq0]
  exact (zii xb yb g w h hy lg hg0).mono fun e w' ⟨zb,he,hb,hr,_⟩=>⟨zb,he,hr,hb⟩
end Go.Proofs.YtffghofheeleeaaGreatDoor
