/- What payments are worth now, as the refe -/
import Derived.Test.YtollloafckcogaaGreatDoorKYRLd
namespace Go.Proofs.YtollloafckcogaaGreatDoor
open Go.RowKit
set_option maxHeartbeats 16000000
set_option maxRecDepth 100000
set_option linter.unusedVariables false
theorem rats_cells {w:World} {v:Value} {fs:List Rat} {F:Nat→Rat} (hr:RatsAt w v fs) (hF:∀ i,i<fs.length→fs[i]? = some (F i)):∃ a cap,v=.slice a fs.length cap∧fs.length≤cap∧∀ W,But [] w W→∀ i,i<fs.length→∃ b off g,a=some ⟨b,off,none⟩∧W.cell? ⟨b,off+i,none⟩=some (.pointer (some ⟨g,0,none⟩))∧RatIs W g (F i):=by
 obtain ⟨a,cap,e,hc⟩:=hr.open
 refine ⟨a,cap,e,hc,fun W hb i hi=>?_⟩
 have h0:=hr.but hb
 rw [e] at h0
 obtain ⟨-,b,off,g,f,h1,h2,h3,h4⟩:=h0.at i hi
 rw [hF i hi] at h3
 obtain rfl:=Option.some.inj h3
 exact ⟨b,off,g,h1,h2,h4⟩
theorem refDivS (xb yb:Nat) (f g q:Rat) (w:World) (hx:SumAt w xb f) (hy:RatIs w yb g) (lf:LenU f 2000000) (lg:LenU g 2000000) (hg0:g.num≠0) (hq:q*g=f) :
  Calls Tryz.prog 22 #[.pointer (some ⟨xb,0,none⟩),.pointer (some ⟨yb,0,none⟩)] w fun e w'=>∃ zb,e=.returned (.pointer (some ⟨zb,0,none⟩))∧RatIs w' zb q∧But [] w w':=by
 rcases hx with h | ⟨h0,h⟩
 ·exact refDivQ xb yb f g q w h hy lf lg hg0 hq
 ·have hq0:q=0:=by
   have hne:g≠0:=fun e=>hg0 (by rw [e];rfl)
   rw [h0] at hq
   rcases Rat.mul_eq_zero.1 hq with h | h
   ·exact h
   ·exact absurd h hne
  rw [hq0]
  exact (refDivB_any xb yb g w h hy lg hg0).mono fun e w' ⟨zb,he,hb,hr,_⟩=>⟨zb,he,hr,hb⟩
theorem refValue_err (vp vr:Value) (z:Int) (w:World) (hz:(z != 0)=true) (DC:Calls Tryz.prog 15 #[vr] w fun e w'=>e=.returned (.tuple #[.slice none 0 0,.int .i64 z])∧But [] w w') :
  Calls Tryz.prog 20 #[vp,vr] w fun e w'=>e=.returned (.tuple #[.pointer none,.int .i64 z])∧But [] w w':=by
 have C1:=hide DC
 clear DC
 go_enter Tryz.func20,Tryz.ntmps20
 go_wp2_with fail
 refine (unhide C1).mono ?_
 rintro e w1 ⟨rfl,hb⟩
 have B1:=hide hb
 clear hb C1
 go_wp2
 exact bodyPost_ret (v:=.tuple #[.pointer none,.int .i64 z]) (by simp [results,Tryz.results20,go_sem]) rfl ⟨rfl,unhide B1⟩
theorem refValue_form (ap ar:Option Addr) (np nr cp cr:Nat) (w:World) (hn:nr+1<np) (hn2:nr<1000000) (DC:Calls Tryz.prog 15 #[.slice ar nr cr] w fun e w'=>∃ v',e=.returned (.tuple #[v',.int .i64 0])∧But [] w w') :
  Calls Tryz.prog 20 #[.slice ap np cp,.slice ar nr cr] w fun e w'=>e=.returned (.tuple #[.pointer none,.int .i64 3])∧But [] w w':=by
 have C1:=hide DC
 clear DC
 go_enter Tryz.func20,Tryz.ntmps20
 go_wp2_with fail
 refine (unhide C1).mono ?_
 rintro e w1 ⟨v',rfl,hb⟩
 have B1:=hide hb
 clear hb C1
 go_wp2
 exact bodyPost_ret (v:=.tuple #[.pointer none,.int .i64 3]) (by simp [results,Tryz.results20,go_sem]) rfl ⟨rfl,unhide B1⟩
theorem refValue_ok (vp vr:Value) (ps:List Rat) (P R:Nat→Rat) (nr:Nat) (w:World) (hp:RatsAt w vp ps) (hP:∀ i,i<ps.length→ps[i]? = some (P i)) (hr:∃ a c,vr=.slice a nr c) (hl:ps.length≤nr+1) (hn:nr≤120) (lp:∀ i,i<ps.length→Len (P i) 1) (lr:∀ i,i<nr→Len (R i) 1) (hg:∀ i,i<nr→0<1+R i)
  (DC:Calls Tryz.prog 15 #[vr] w fun e w'=>∃ v' us,e=.returned (.tuple #[v',.int .i64 0])∧OwnR w' w.heap.size v' ((List.range (nr+1)).map (discR R)) us∧But [] w w') :
  Calls Tryz.prog 20 #[vp,vr] w fun e w'=>∃ pb,e=.returned (.tuple #[.pointer (some ⟨pb,0,none⟩),.int .i64 0])∧SumAt w' pb (vsR P R ps.length)∧But [] w w':=by
 have C1:=hide DC
 obtain ⟨a,cap,rfl,hcap,hV⟩:=rats_cells hp hP
 obtain ⟨ar,cr,rfl⟩:=hr
 have HV:=hide hV
 have HL:=hide (And.intro lp (And.intro lr hg))
 clear DC hp hP lp lr hg hV
 obtain ⟨n,hnn⟩:∃ n,n=ps.length:=⟨_,rfl⟩
 rw [← hnn] at hcap HV HL hl
 rw [← hnn]
 clear hnn
 go_enter Tryz.func20,Tryz.ntmps20
 go_wp2_with fail
 refine (unhide C1).mono ?_
 rintro e w1 ⟨vd,us,rfl,hO,hb1⟩
 obtain ⟨ad,cd,ed,hcd,hD⟩:=rats_cells (F:=discR R) hO.rats (fun i hi=>by
  rw [List.length_map,List.length_range] at hi
  rw [List.getElem?_map,List.getElem?_range hi];rfl)
 rw [List.length_map,List.length_range] at ed hcd hD
 subst ed
 have HD:=hide hD
 have B1:=hide hb1
 clear hO hb1 hD C1
 have hb0:=blank_new w1 92
 have bW:But [] w1 (w1.alloc (.cells #[.bool false,.slice none 0 0,.bool false,.slice none 0 0] 92)):=(But.refl _ _).alloc _
 obtain ⟨W,hW⟩:∃ W,W=w1.alloc (.cells #[.bool false,.slice none 0 0,.bool false,.slice none 0 0] 92):=⟨_,rfl⟩
 rw [← hW] at hb0 bW
 obtain ⟨g0,hg0⟩:∃ g,g=w1.heap.size:=⟨_,rfl⟩
 rw [← hg0] at hb0
 have I0:Hid (SumAt W g0 (vsR P R 0)∧But [] w1 W):=⟨.inr ⟨rfl,hb0⟩,bW⟩
 have HW:=hide hW
 clear hW hb0 bW
 go_wp2
 rw [← unhide HW,← hg0]
 clear HW hg0
 go_loopw [8,28] (fun p i wr=>∃ (k pb:Nat),k≤n∧i=.int .i64 (k:Int)∧p=.pointer (some ⟨pb,0,none⟩)∧Hid (SumAt wr pb (vsR P R k)∧But [] w1 wr)) (fun _ i _=>n-(intOf i).toNat)
 case atStart=>exact ⟨0,g0,Nat.zero_le _,rfl,rfl,unhide I0⟩
 case round =>
  obtain ⟨k,pb,hk,rfl,rfl,HI⟩:=hrel
  rename World=>wr
  clear I0
  by_cases hlt:k<n
  ·obtain ⟨b,off,g,rfl,c0,hT⟩:=unhide HV wr ((unhide B1).trans' (unhide HI).2) k hlt
   obtain ⟨bd,offd,gd,rfl,d0,hTd⟩:=unhide HD wr (unhide HI).2 k (by omega)
   obtain ⟨lp,lr,hg⟩:=unhide HL
   have ld:=lenU_len (len_disc (r:=R) k (fun i hi=>hg i (by omega)) (fun i hi=>lr i (by omega)))
   have ls:LenU (vsR P R k) 2000000:=(lenU_sg (F:=fun i=>P i*discR R i) (c:=3000) k (fun i hi=>(((lenU_len (lp i (by omega))).mul (lenU_len (len_disc (r:=R) i (fun j hj=>hg j (by omega)) (fun j hj=>lr j (by omega)))))).mono (by omega))).mono (by have:k*3001≤121*3001:=Nat.mul_le_mul_right _ (by omega);omega)
   have lm:LenU (P k*discR R k) 2000000:=((lenU_len (lp k (by omega))).mul ld).mono (by omega)
   have MU:Hid (∀ W,RatIs W g (P k)→RatIs W gd (discR R k)→Calls Tryz.prog 41 #[.pointer (some ⟨g,0,none⟩),.pointer (some ⟨gd,0,none⟩)] W fun e w'=>∃ zb,e=.returned (.pointer (some ⟨zb,0,none⟩))∧RatIs w' zb (P k*discR R k)∧But [] W w'):=fun W h1 h2=>refMulQ g gd _ _ W h1 h2 ((lenU_len (lp k (by omega))).mono (by omega)) (ld.mono (by omega))
   have AD:Hid (∀ W zb,SumAt W pb (vsR P R k)→RatIs W zb (P k*discR R k)→Calls Tryz.prog 53 #[.pointer (some ⟨pb,0,none⟩),.pointer (some ⟨zb,0,none⟩)] W fun e w'=>∃ zb,e=.returned (.pointer (some ⟨zb,0,none⟩))∧RatIs w' zb (vsR P R k+P k*discR R k)∧But [] W w'):=fun W zb h1 h2=>refAddS pb zb _ _ W h1 h2 ls lm
   have S0:=hide (And.intro hT hTd)
   clear hT hTd ls lm ld lp lr hg
   go_wp2_with fail
   refine (unhide MU _ (unhide S0).1 (unhide S0).2).mono ?_
   rintro e w2 ⟨g2,rfl,h2,hb2⟩
   have S2:=hide (And.intro ((unhide HI).1.but hb2) (And.intro h2 ((unhide HI).2.trans' hb2)))
   clear h2 hb2 S0
   go_wp2_with fail
   refine (unhide AD _ _ (unhide S2).1 (unhide S2).2.1).mono ?_
   rintro e w3 ⟨g3,rfl,h3,hb3⟩
   have NS:Hid (SumAt w3 g3 (vsR P R (k+1))∧But [] w1 w3):=⟨.inl h3,(unhide S2).2.2.trans' hb3⟩
   clear h3 hb3 S2
   go_wp2
   exact ⟨⟨k+1,g3,by omega,by go_num,rfl,unhide NS⟩,by simp [intOf];omega⟩
  ·obtain rfl:k=n:=by omega
   go_wp2
   exact bodyPost_ret (v:=.tuple #[.pointer (some ⟨pb,0,none⟩),.int .i64 0]) (by simp [results,Tryz.results20,go_sem]) rfl ⟨pb,rfl,(unhide HI).1,(unhide B1).trans' (unhide HI).2⟩
end Go.Proofs.YtollloafckcogaaGreatDoor
