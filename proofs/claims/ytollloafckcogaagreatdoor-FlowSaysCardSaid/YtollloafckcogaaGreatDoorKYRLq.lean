/- The reference's numbers, in one form.  -/
import Derived.Test.YtollloafckcogaaGreatDoorKYLX
namespace Go.Proofs.YtollloafckcogaaGreatDoor
open Go.RowKit
set_option linter.unusedVariables false
theorem refIntQ (z:Int) (w:World) (h1:-9223372036854775808≤z) (h2:z<9223372036854775808) :
  Calls Tryz.prog 21 #[.int .i64 z] w fun e w'=>∃ zb,e=.returned (.pointer (some ⟨zb,0,none⟩))∧RatIs w' zb (((z:Int):Rat))∧But [] w w':=by
 obtain ⟨i1,i2⟩:=int_parts z
 exact (refInt_any z w h1 h2).mono fun e w' ⟨zb,he,hb,hr⟩=>⟨zb,he,by unfold RatIs;rw [i1,i2];exact hr,hb⟩
theorem refAddQ (xb yb:Nat) (f g:Rat) (w:World) (hx:RatIs w xb f) (hy:RatIs w yb g) (lf:LenU f 2000000) (lg:LenU g 2000000) :
  Calls Tryz.prog 53 #[.pointer (some ⟨xb,0,none⟩),.pointer (some ⟨yb,0,none⟩)] w fun e w'=>∃ zb,e=.returned (.pointer (some ⟨zb,0,none⟩))∧RatIs w' zb (f+g)∧But [] w w' :=
 (refAdd_any xb yb f g w hx hy lf lg).mono fun e w' ⟨zb,he,hb,hr,_⟩=>⟨zb,he,hr,hb⟩
theorem refMulQ (xb yb:Nat) (f g:Rat) (w:World) (hx:RatIs w xb f) (hy:RatIs w yb g) (lf:LenU f 2000000) (lg:LenU g 2000000) :
  Calls Tryz.prog 41 #[.pointer (some ⟨xb,0,none⟩),.pointer (some ⟨yb,0,none⟩)] w fun e w'=>∃ zb,e=.returned (.pointer (some ⟨zb,0,none⟩))∧RatIs w' zb (f*g)∧But [] w w' :=
 (refMul_any xb yb f g w hx hy lf lg).mono fun e w' ⟨zb,he,hb,hr,_⟩=>⟨zb,he,hr,hb⟩
theorem refDivQ (xb yb:Nat) (f g q:Rat) (w:World) (hx:RatIs w xb f) (hy:RatIs w yb g) (lf:LenU f 2000000) (lg:LenU g 2000000) (hg0:g.num≠0) (hq:q*g=f) :
  Calls Tryz.prog 22 #[.pointer (some ⟨xb,0,none⟩),.pointer (some ⟨yb,0,none⟩)] w fun e w'=>∃ zb,e=.returned (.pointer (some ⟨zb,0,none⟩))∧RatIs w' zb (q)∧But [] w w' :=
 (refDivU_any xb yb f g q w hx hy lf lg hg0 hq).mono fun e w' ⟨zb,he,hb,hr,_⟩=>⟨zb,he,hr,hb⟩
theorem refSignQ (b:Nat) (f:Rat) (w:World) (h:RatIs w b f) (s:Int) (hs:s=f.num.sign) (hl:LenU f 2000000) :
  Calls Tryz.prog 54 #[.pointer (some ⟨b,0,none⟩)] w fun e w'=>e=.returned (.int .i64 s)∧But [] w w' :=
 (ratSign_any b f.num (f.den:Int) w h s hs (by have:=hl.1;omega)).mono fun e w' ⟨he,hw⟩=>⟨he,by rw [hw];exact But.refl _ _⟩
theorem LenU.int {z:Int} (h:z.natAbs<18446744073709551616):LenU ((z:Int):Rat) 2:=by
 obtain ⟨i1,i2⟩:=int_parts z
 exact ⟨by rw [i1];exact len_le_two _ h,by rw [i2];exact len_le_two _ (by omega)⟩
end Go.Proofs.YtollloafckcogaaGreatDoor

namespace Go.Proofs.YtollloafckcogaaGreatDoor
open Go.RowKit
set_option maxHeartbeats 16000000
set_option maxRecDepth 100000
set_option linter.unusedVariables false
def discR (r:Nat→Rat):Nat→Rat
 | 0=>1
 | i+1=>discR r i/(1+r i)
theorem discR_pos {r:Nat→Rat}:∀ n,(∀ i,i<n→0<1+r i)→0<discR r n
 | 0,_=>by show (0:Rat)<1;decide
 | n+1,h=>by
  show 0<discR r n/(1+r n)
  rw [Rat.div_def]
  exact Rat.mul_pos (discR_pos n (fun i hi=>h i (by omega))) (Rat.inv_pos.2 (h n (by omega)))
theorem numPosL {x:Rat}:0<x.num↔0<x:=by
 rw [Rat.lt_iff]
 simp
theorem len_disc {r:Nat→Rat}:∀ n,(∀ i,i<n→0<1+r i)→(∀ i,i<n→Len (r i) 1)→Len (discR r n) (4*n+1)
 | 0,_,_=>(len_int 1 (by decide)).mono (by omega)
 | n+1,h,l=>by
  show Len (discR r n/(1+r n)) _
  have h1:=h n (by omega)
  exact len_div (len_disc n (fun i hi=>h i (by omega)) (fun i hi=>l i (by omega))) (len_add (len_int 1 (by decide)) (l n (by omega)) 3 (by omega)) (Int.ne_of_gt (numPosL.2 h1)) (4*(n+1)+1) (by omega)
theorem OwnR.one (w:World) (u:Value) (f:Rat) (h:PtrIs w u f):OwnR (w.alloc (.cells #[u] 37)) w.heap.size (.slice (some ⟨w.heap.size,0,none⟩) 1 1) [f] [u]:=by
 obtain ⟨g,rfl,hr⟩:=h
 refine ⟨World.ownsRow_lit w #[.pointer (some ⟨g,0,none⟩)] 1 (Nat.le_refl _) (by unfold maxLen;omega) rfl,rfl,fun i x hi=>?_,fun e=>by simp at e⟩
 cases i with
 | zero =>
  simp only [List.getElem?_cons_zero,Option.some.injEq] at hi
  subst hi
  exact ⟨_,rfl,g,rfl,hr.but ((But.refl [] w).alloc _)⟩
 | succ i=>simp at hi
theorem refDisc_ok (v:Value) (rs:List Rat) (R:Nat→Rat) (w:World) (hr:RatsAt w v rs) (hR:∀ i,i<rs.length→rs[i]? = some (R i)) (hn:rs.length≤120) (lr:∀ i,i<rs.length→Len (R i) 1) (hg:∀ i,i<rs.length→0<1+R i) :
  Calls Tryz.prog 15 #[v] w fun e w'=>∃ v' us,e=.returned (.tuple #[v',.int .i64 0])∧OwnR w' w.heap.size v' ((List.range (rs.length+1)).map (discR R)) us∧But [] w w':=by
 have hcell:∀ W,But [] w W→∀ i,i<rs.length→∃ b off g,(∃ a c,v=.slice a rs.length c∧a=some ⟨b,off,none⟩)∧W.cell? ⟨b,off+i,none⟩=some (.pointer (some ⟨g,0,none⟩))∧RatIs W g (R i):=fun W hb i hi=>by
  obtain ⟨a,cap,e,-⟩:=hr.open
  have h0:=hr.but hb
  rw [e] at h0
  obtain ⟨-,b,off,g,f,h1,h2,h3,h4⟩:=h0.at i hi
  rw [hR i hi] at h3
  obtain rfl:=Option.some.inj h3
  exact ⟨b,off,g,⟨a,cap,e,h1⟩,h2,h4⟩
 have I1:Hid (∀ W,Calls Tryz.prog 21 #[.int .i64 1] W fun e w'=>∃ zb,e=.returned (.pointer (some ⟨zb,0,none⟩))∧RatIs w' zb (((1:Int):Rat))∧But [] W w'):=fun W=>refIntQ 1 W (by omega) (by omega)
 obtain ⟨a,cap,rfl,hcap⟩:=hr.open
 have HV:=hide hcell
 have HG:=hide hg
 have HL:=hide lr
 clear hcell hr lr hR hg
 generalize rs.length=n at *
 go_enter Tryz.func15,Tryz.ntmps15
 go_wp2_with fail
 refine (unhide I1 _).mono ?_
 rintro e w1 ⟨g1,rfl,h1,hb1⟩
 have O1:=OwnR.one w1 _ _ ⟨g1,rfl,h1⟩
 have bU:But [] w (w1.alloc (.cells #[.pointer (some ⟨g1,0,none⟩)] 37)):=hb1.alloc _
 have I0:Hid (OwnR (w1.alloc (.cells #[.pointer (some ⟨g1,0,none⟩)] 37)) w.heap.size (.slice (some ⟨w1.heap.size,0,none⟩) 1 1) ((List.range (0+1)).map (discR R)) [.pointer (some ⟨g1,0,none⟩)]∧But [] w (w1.alloc (.cells #[.pointer (some ⟨g1,0,none⟩)] 37))):=⟨O1.mono hb1.size,bU⟩
 clear O1 bU h1 hb1
 go_wp2
 go_loopw [4,15] (fun o i wr=>∃ (k:Nat) (us:List Value),k≤n∧i=.int .i64 (k:Int)∧Hid (OwnR wr w.heap.size o ((List.range (k+1)).map (discR R)) us∧But [] w wr)) (fun _ i _=>n-(intOf i).toNat)
 case atStart=>exact ⟨0,_,Nat.zero_le _,rfl,unhide I0⟩
 case round =>
  obtain ⟨k,us,hk,rfl,HI⟩:=hrel
  rename World=>wr
  clear I0
  by_cases hlt:k<n
  ·have hkn:k<n:=hlt
   have GK:k<n:=hlt
   obtain ⟨b,off,g,⟨a',c',e',ea⟩,c0,hT⟩:=unhide HV wr (unhide HI).2 k hkn
   simp only [Value.slice.injEq] at e'
   obtain ⟨rfl,-,-⟩:=e'
   subst ea
   obtain ⟨go_,capo,eo,ho1,ho2,-,-⟩:=(unhide HI).1.block (by simp)
   have eo':u4=.slice (some ⟨go_,0,none⟩) (k+1) capo:=by rw [eo];simp
   subst eo'
   have hro:=(unhide HI).1.rats
   obtain ⟨-,b2,off2,gd,fd,q1,q2,q3,q4⟩:=hro.at k (by omega)
   simp only [Option.some.injEq,Addr.mk.injEq] at q1
   obtain ⟨rfl,rfl,-⟩:=q1
   rw [List.getElem?_map,List.getElem?_range (by omega)] at q3
   obtain rfl:=Option.some.inj q3
   rw [Nat.zero_add] at q2
   have lD:=lenU_len (len_disc (r:=R) k (fun i hi=>unhide HG i (by omega)) (fun i hi=>unhide HL i (by omega)))
   have lf:=lenU_len (unhide HL k hkn)
   have lg:LenU (((1:Int):Rat)+R k) 5:=((LenU.int (by decide)).add lf).mono (by omega)
   have AD:Hid (∀ W xb,RatIs W xb ((1:Int):Rat)→RatIs W g (R k)→Calls Tryz.prog 53 #[.pointer (some ⟨xb,0,none⟩),.pointer (some ⟨g,0,none⟩)] W fun e w'=>∃ zb,e=.returned (.pointer (some ⟨zb,0,none⟩))∧RatIs w' zb (((1:Int):Rat)+R k)∧But [] W w'):=fun W xb h1 h2=>refAddQ xb g _ _ W h1 h2 ((LenU.int (by decide)).mono (by omega)) (lf.mono (by omega))
   have SG:Hid (∀ W gb,RatIs W gb (((1:Int):Rat)+R k)→Calls Tryz.prog 54 #[.pointer (some ⟨gb,0,none⟩)] W fun e w'=>e=.returned (.int .i64 1)∧But [] W w'):=fun W gb h=>refSignQ gb _ W h 1 (Int.sign_eq_one_of_pos (numPosL.2 (unhide HG k GK))).symm (lg.mono (by omega))
   have DV:Hid (∀ W yb,RatIs W gd (discR R k)→RatIs W yb (((1:Int):Rat)+R k)→Calls Tryz.prog 22 #[.pointer (some ⟨gd,0,none⟩),.pointer (some ⟨yb,0,none⟩)] W fun e w'=>∃ zb,e=.returned (.pointer (some ⟨zb,0,none⟩))∧RatIs w' zb (discR R (k+1))∧But [] W w'):=fun W yb h1 h2=>refDivQ gd yb _ _ _ W h1 h2 (lD.mono (by omega)) (lg.mono (by omega)) (by have:=numPosL.2 (unhide HG k GK);exact fun e=>by rw [show (((1:Int):Rat))=1 from rfl] at e;omega) (Rat.div_mul_cancel (fun e=>by have h0:=unhide HG k GK;rw [e] at h0;exact absurd h0 (by decide)))
   have S0:=hide (And.intro (But.refl [] wr) (And.intro hT q4))
   clear hT q4 hro lD lf lg eo ho1 ho2
   go_wp2_with fail
   refine (unhide I1 _).mono ?_
   rintro e w2 ⟨g2,rfl,h2,hb2⟩
   have S2:=hide (And.intro ((unhide S0).1.trans' hb2) (And.intro ((unhide S0).2.1.but hb2) (And.intro ((unhide S0).2.2.but hb2) h2)))
   clear h2 hb2 S0
   go_wp2_with fail
   refine (unhide AD _ _ (unhide S2).2.2.2 (unhide S2).2.1).mono ?_
   rintro e w3 ⟨g3,rfl,h3,hb3⟩
   have S3:=hide (And.intro ((unhide S2).1.trans' hb3) (And.intro ((unhide S2).2.2.1.but hb3) h3))
   clear h3 hb3 S2
   go_wp2_with fail
   refine (unhide SG _ _ (unhide S3).2.2).mono ?_
   rintro e w4 ⟨rfl,hb4⟩
   have q24:=((unhide S3).1.trans' hb4).cell_some q2 (by simp)
   have S4:=hide (And.intro ((unhide S3).1.trans' hb4) (And.intro ((unhide S3).2.1.but hb4) ((unhide S3).2.2.but hb4)))
   clear hb4 S3 q2
   go_wp2_with fail
   refine (unhide DV _ _ (unhide S4).2.1 (unhide S4).2.2).mono ?_
   rintro e w5 ⟨g5,rfl,h5,hb5⟩
   obtain ⟨V,hV⟩:∃ V,V=w5.alloc (.cells #[.pointer (some ⟨g5,0,none⟩)] 37):=⟨_,rfl⟩
   have bV1:But [] w5 V:=by rw [hV];exact (But.refl _ _).alloc _
   have cc:V.cell? ⟨w5.heap.size,0,none⟩=some (.pointer (some ⟨g5,0,none⟩)):=by rw [hV];simp
   have bV:But [] wr V:=((unhide S4).1.trans' hb5).trans' bV1
   have oV:=(unhide HI).1.but bV
   have bwV:=(unhide HI).2.trans' bV
   obtain ⟨v',w',hr,ho,hB,-⟩:=append_ref V w _ _ us w.heap.size oV w5.heap.size _ (discR R (k+1)) cc ⟨g5,rfl,h5.but bV1⟩ (by simp;omega) bwV (Nat.le_refl _) bwV.size
   have BF:Hid (But [] w w'):=hB
   have HO:=hide ho
   rw [hV] at hr
   have HR:=hide hr
   clear hr ho hB oV bV bwV cc hV bV1 h5 hb5 S4 q24
   go_wp2_with (at_builtin;refine wpList_app rfl _ _ 46 46 rfl _ _ v' w' rfl rfl (unhide HR) ?_)
   refine ⟨⟨k+1,_,by omega,by go_num,by rw [List.range_succ,List.map_append];exact unhide HO,unhide BF⟩,by simp [intOf];omega⟩
  ·obtain rfl:k=n:=by omega
   go_wp2
   exact bodyPost_ret (v:=.tuple #[u4,.int .i64 0]) (by simp [results,Tryz.results15,go_sem]) rfl ⟨_,us,rfl,(unhide HI).1,(unhide HI).2⟩
theorem refDisc_bad (v:Value) (rs:List Rat) (R:Nat→Rat) (w:World) (hr:RatsAt w v rs) (hR:∀ i,i<rs.length→rs[i]? = some (R i)) (hn:rs.length≤120) (lr:∀ i,i<rs.length→Len (R i) 1) (m:Nat) (hm:m<rs.length) (hg:∀ i,i<m→0<1+R i) (hbad:¬ 0<1+R m) :
  Calls Tryz.prog 15 #[v] w fun e w'=>e=.returned (.tuple #[.slice none 0 0,.int .i64 1])∧But [] w w':=by
 have hcell:∀ W,But [] w W→∀ i,i<rs.length→∃ b off g,(∃ a c,v=.slice a rs.length c∧a=some ⟨b,off,none⟩)∧W.cell? ⟨b,off+i,none⟩=some (.pointer (some ⟨g,0,none⟩))∧RatIs W g (R i):=fun W hb i hi=>by
  obtain ⟨a,cap,e,-⟩:=hr.open
  have h0:=hr.but hb
  rw [e] at h0
  obtain ⟨-,b,off,g,f,h1,h2,h3,h4⟩:=h0.at i hi
  rw [hR i hi] at h3
  obtain rfl:=Option.some.inj h3
  exact ⟨b,off,g,⟨a,cap,e,h1⟩,h2,h4⟩
 have I1:Hid (∀ W,Calls Tryz.prog 21 #[.int .i64 1] W fun e w'=>∃ zb,e=.returned (.pointer (some ⟨zb,0,none⟩))∧RatIs w' zb (((1:Int):Rat))∧But [] W w'):=fun W=>refIntQ 1 W (by omega) (by omega)
 obtain ⟨a,cap,rfl,hcap⟩:=hr.open
 have HV:=hide hcell
 have HG:=hide hg
 have HL:=hide lr
 have HB:=hide hbad
 clear hcell hr lr hR hg hbad
 generalize rs.length=n at *
 go_enter Tryz.func15,Tryz.ntmps15
 go_wp2_with fail
 refine (unhide I1 _).mono ?_
 rintro e w1 ⟨g1,rfl,h1,hb1⟩
 have O1:=OwnR.one w1 _ _ ⟨g1,rfl,h1⟩
 have bU:But [] w (w1.alloc (.cells #[.pointer (some ⟨g1,0,none⟩)] 37)):=hb1.alloc _
 have I0:Hid (OwnR (w1.alloc (.cells #[.pointer (some ⟨g1,0,none⟩)] 37)) w.heap.size (.slice (some ⟨w1.heap.size,0,none⟩) 1 1) ((List.range (0+1)).map (discR R)) [.pointer (some ⟨g1,0,none⟩)]∧But [] w (w1.alloc (.cells #[.pointer (some ⟨g1,0,none⟩)] 37))):=⟨O1.mono hb1.size,bU⟩
 clear O1 bU h1 hb1
 go_wp2
 go_loopw [4,15] (fun o i wr=>∃ (k:Nat) (us:List Value),k≤m∧i=.int .i64 (k:Int)∧Hid (OwnR wr w.heap.size o ((List.range (k+1)).map (discR R)) us∧But [] w wr)) (fun _ i _=>n-(intOf i).toNat)
 case atStart=>exact ⟨0,_,Nat.zero_le _,rfl,unhide I0⟩
 case round =>
  obtain ⟨k,us,hk,rfl,HI⟩:=hrel
  rename World=>wr
  clear I0
  by_cases hlt:k<m
  ·have hkn:k<n:=by omega
   have GK:k<m:=hlt
   obtain ⟨b,off,g,⟨a',c',e',ea⟩,c0,hT⟩:=unhide HV wr (unhide HI).2 k hkn
   simp only [Value.slice.injEq] at e'
   obtain ⟨rfl,-,-⟩:=e'
   subst ea
   obtain ⟨go_,capo,eo,ho1,ho2,-,-⟩:=(unhide HI).1.block (by simp)
   have eo':u4=.slice (some ⟨go_,0,none⟩) (k+1) capo:=by rw [eo];simp
   subst eo'
   have hro:=(unhide HI).1.rats
   obtain ⟨-,b2,off2,gd,fd,q1,q2,q3,q4⟩:=hro.at k (by omega)
   simp only [Option.some.injEq,Addr.mk.injEq] at q1
   obtain ⟨rfl,rfl,-⟩:=q1
   rw [List.getElem?_map,List.getElem?_range (by omega)] at q3
   obtain rfl:=Option.some.inj q3
   rw [Nat.zero_add] at q2
   have lD:=lenU_len (len_disc (r:=R) k (fun i hi=>unhide HG i (by omega)) (fun i hi=>unhide HL i (by omega)))
   have lf:=lenU_len (unhide HL k hkn)
   have lg:LenU (((1:Int):Rat)+R k) 5:=((LenU.int (by decide)).add lf).mono (by omega)
   have AD:Hid (∀ W xb,RatIs W xb ((1:Int):Rat)→RatIs W g (R k)→Calls Tryz.prog 53 #[.pointer (some ⟨xb,0,none⟩),.pointer (some ⟨g,0,none⟩)] W fun e w'=>∃ zb,e=.returned (.pointer (some ⟨zb,0,none⟩))∧RatIs w' zb (((1:Int):Rat)+R k)∧But [] W w'):=fun W xb h1 h2=>refAddQ xb g _ _ W h1 h2 ((LenU.int (by decide)).mono (by omega)) (lf.mono (by omega))
   have SG:Hid (∀ W gb,RatIs W gb (((1:Int):Rat)+R k)→Calls Tryz.prog 54 #[.pointer (some ⟨gb,0,none⟩)] W fun e w'=>e=.returned (.int .i64 1)∧But [] W w'):=fun W gb h=>refSignQ gb _ W h 1 (Int.sign_eq_one_of_pos (numPosL.2 (unhide HG k GK))).symm (lg.mono (by omega))
   have DV:Hid (∀ W yb,RatIs W gd (discR R k)→RatIs W yb (((1:Int):Rat)+R k)→Calls Tryz.prog 22 #[.pointer (some ⟨gd,0,none⟩),.pointer (some ⟨yb,0,none⟩)] W fun e w'=>∃ zb,e=.returned (.pointer (some ⟨zb,0,none⟩))∧RatIs w' zb (discR R (k+1))∧But [] W w'):=fun W yb h1 h2=>refDivQ gd yb _ _ _ W h1 h2 (lD.mono (by omega)) (lg.mono (by omega)) (by have:=numPosL.2 (unhide HG k GK);exact fun e=>by rw [show (((1:Int):Rat))=1 from rfl] at e;omega) (Rat.div_mul_cancel (fun e=>by have h0:=unhide HG k GK;rw [e] at h0;exact absurd h0 (by decide)))
   have S0:=hide (And.intro (But.refl [] wr) (And.intro hT q4))
   clear hT q4 hro lD lf lg eo ho1 ho2
   go_wp2_with fail
   refine (unhide I1 _).mono ?_
   rintro e w2 ⟨g2,rfl,h2,hb2⟩
   have S2:=hide (And.intro ((unhide S0).1.trans' hb2) (And.intro ((unhide S0).2.1.but hb2) (And.intro ((unhide S0).2.2.but hb2) h2)))
   clear h2 hb2 S0
   go_wp2_with fail
   refine (unhide AD _ _ (unhide S2).2.2.2 (unhide S2).2.1).mono ?_
   rintro e w3 ⟨g3,rfl,h3,hb3⟩
   have S3:=hide (And.intro ((unhide S2).1.trans' hb3) (And.intro ((unhide S2).2.2.1.but hb3) h3))
   clear h3 hb3 S2
   go_wp2_with fail
   refine (unhide SG _ _ (unhide S3).2.2).mono ?_
   rintro e w4 ⟨rfl,hb4⟩
   have q24:=((unhide S3).1.trans' hb4).cell_some q2 (by simp)
   have S4:=hide (And.intro ((unhide S3).1.trans' hb4) (And.intro ((unhide S3).2.1.but hb4) ((unhide S3).2.2.but hb4)))
   clear hb4 S3 q2
   go_wp2_with fail
   refine (unhide DV _ _ (unhide S4).2.1 (unhide S4).2.2).mono ?_
   rintro e w5 ⟨g5,rfl,h5,hb5⟩
   obtain ⟨V,hV⟩:∃ V,V=w5.alloc (.cells #[.pointer (some ⟨g5,0,none⟩)] 37):=⟨_,rfl⟩
   have bV1:But [] w5 V:=by rw [hV];exact (But.refl _ _).alloc _
   have cc:V.cell? ⟨w5.heap.size,0,none⟩=some (.pointer (some ⟨g5,0,none⟩)):=by rw [hV];simp
   have bV:But [] wr V:=((unhide S4).1.trans' hb5).trans' bV1
   have oV:=(unhide HI).1.but bV
   have bwV:=(unhide HI).2.trans' bV
   obtain ⟨v',w',hr,ho,hB,-⟩:=append_ref V w _ _ us w.heap.size oV w5.heap.size _ (discR R (k+1)) cc ⟨g5,rfl,h5.but bV1⟩ (by simp;omega) bwV (Nat.le_refl _) bwV.size
   have BF:Hid (But [] w w'):=hB
   have HO:=hide ho
   rw [hV] at hr
   have HR:=hide hr
   clear hr ho hB oV bV bwV cc hV bV1 h5 hb5 S4 q24
   go_wp2_with (at_builtin;refine wpList_app rfl _ _ 46 46 rfl _ _ v' w' rfl rfl (unhide HR) ?_)
   refine ⟨⟨k+1,_,by omega,by go_num,by rw [List.range_succ,List.map_append];exact unhide HO,unhide BF⟩,by simp [intOf];omega⟩
  ·obtain rfl:k=m:=by omega
   obtain ⟨b,off,g,⟨a',c',e',ea⟩,c0,hT⟩:=unhide HV wr (unhide HI).2 k hm
   simp only [Value.slice.injEq] at e'
   obtain ⟨rfl,-,-⟩:=e'
   subst ea
   have lf:=lenU_len (unhide HL k hm)
   have lg:LenU (((1:Int):Rat)+R k) 5:=((LenU.int (by decide)).add lf).mono (by omega)
   have AD:Hid (∀ W xb,RatIs W xb ((1:Int):Rat)→RatIs W g (R k)→Calls Tryz.prog 53 #[.pointer (some ⟨xb,0,none⟩),.pointer (some ⟨g,0,none⟩)] W fun e w'=>∃ zb,e=.returned (.pointer (some ⟨zb,0,none⟩))∧RatIs w' zb (((1:Int):Rat)+R k)∧But [] W w'):=fun W xb h1 h2=>refAddQ xb g _ _ W h1 h2 ((LenU.int (by decide)).mono (by omega)) (lf.mono (by omega))
   obtain ⟨sg,hsg⟩:∃ sg,sg=(((1:Int):Rat)+R k).num.sign:=⟨_,rfl⟩
   have sg0:sg≤0:=by
    have hle:(((1:Int):Rat)+R k).num≤0:=Int.not_lt.1 (fun h=>unhide HB (numPosL.1 h))
    rw [hsg]
    rcases Int.lt_or_eq_of_le hle with h | h
    ·rw [Int.sign_eq_neg_one_of_neg h];omega
    ·rw [h];decide
   have SG:Hid (∀ W gb,RatIs W gb (((1:Int):Rat)+R k)→Calls Tryz.prog 54 #[.pointer (some ⟨gb,0,none⟩)] W fun e w'=>e=.returned (.int .i64 sg)∧But [] W w'):=fun W gb h=>refSignQ gb _ W h sg hsg (lg.mono (by omega))
   have S0:=hide (And.intro (unhide HI).2 hT)
   clear hT hsg lf lg
   go_wp2_with fail
   refine (unhide I1 _).mono ?_
   rintro e w2 ⟨g2,rfl,h2,hb2⟩
   have S2:=hide (And.intro ((unhide S0).1.trans' hb2) (And.intro ((unhide S0).2.but hb2) h2))
   clear h2 hb2 S0
   go_wp2_with fail
   refine (unhide AD _ _ (unhide S2).2.2 (unhide S2).2.1).mono ?_
   rintro e w3 ⟨g3,rfl,h3,hb3⟩
   have S3:=hide (And.intro ((unhide S2).1.trans' hb3) h3)
   clear h3 hb3 S2
   go_wp2_with fail
   refine (unhide SG _ _ (unhide S3).2).mono ?_
   rintro e w4 ⟨rfl,hb4⟩
   have S4:=hide ((unhide S3).1.trans' hb4)
   clear hb4 S3
   go_wp2
   exact bodyPost_ret (v:=.tuple #[.slice none 0 0,.int .i64 1]) (by simp [results,Tryz.results15,go_sem]) rfl ⟨rfl,unhide S4⟩
theorem refDisc_limit (a:Option Addr) (n c:Nat) (w:World) (hn:120<n) :
  Calls Tryz.prog 15 #[.slice a n c] w fun e w'=>e=.returned (.tuple #[.slice none 0 0,.int .i64 4])∧But [] w w':=by
 go_enter Tryz.func15,Tryz.ntmps15
 go_wp2
 exact bodyPost_ret (v:=.tuple #[.slice none 0 0,.int .i64 4]) (by simp [results,Tryz.results15,go_sem]) rfl ⟨rfl,But.refl _ _⟩
end Go.Proofs.YtollloafckcogaaGreatDoor

namespace Go.Proofs.YtollloafckcogaaGreatDoor
open Go.RowKit
set_option maxHeartbeats 16000000
set_option maxRecDepth 100000
theorem one_ok (v:Value) (r:Rat) (b:Nat) (w:World) (hv:FracAt w v r) (hb:RatIs w b r) (lr:Len r 1000000) (htab:Lib.TabIs Tryz.prog w "internal/strconv.uint64pow10" .u64 Lib.pow10Tab) :
  Calls Tryz.prog 23 #[v,.nilIface,.pointer (some ⟨b,0,none⟩),.int .i64 0] w fun e w'=>e=.returned (.bool true)∧But [] w w':=by
 obtain ⟨t,ht⟩:∃ t,t=fracTxt (decide (r.num<0)) r.num.natAbs r.den:=⟨_,rfl⟩
 have T1:=hide (fun W (h:But [] w W)=>fracText_len v r W (hv.but h) (lr.mono (by omega)) (TabIs.but htab h) t ht)
 have T2:=hide (fun W (h:But [] w W)=>refText_any b r W (hb.but h) ((lenU_len lr).mono (by omega)) t (ht.trans (txt_same r)))
 obtain ⟨x,y,p,rfl,-⟩:=id hv.agg
 clear hv hb lr htab ht
 generalize decide (r.num<0)=s at *
 obtain ⟨V,hV⟩:∃ V,V=w.alloc (.cells #[.bool s,.int .u64 x,.int .u64 y,.pointer p] 27):=⟨_,rfl⟩
 obtain ⟨g,hg⟩:∃ g,g=w.heap.size:=⟨_,rfl⟩
 have c0:V.cell? ⟨g,0,none⟩=some (.bool s):=by rw [hV,hg];simp
 have c1:V.cell? ⟨g,1,none⟩=some (.int .u64 x):=by rw [hV,hg];simp
 have c2:V.cell? ⟨g,2,none⟩=some (.int .u64 y):=by rw [hV,hg];simp
 have c3:V.cell? ⟨g,3,none⟩=some (.pointer p):=by rw [hV,hg];simp
 have bV:But [] w V:=by rw [hV];exact (But.refl _ _).alloc _
 have BV:=hide bV
 have HV:=hide hV
 clear bV hV
 go_enter Tryz.func23,Tryz.ntmps23
 go_wp2_with fail
 rw [← unhide HV]
 try rw [← hg]
 clear hg HV
 refine (unhide T1 V (unhide BV)).mono ?_
 rintro e w1 ⟨rfl,B1⟩
 have K1:=hide ((unhide BV).trans' B1)
 clear B1 c0 c1 c2 c3
 go_wp2_with fail
 refine (unhide T2 w1 (unhide K1)).mono ?_
 rintro e w2 ⟨rfl,B2⟩
 have K2:=hide ((unhide K1).trans' B2)
 clear B2
 go_wp2
 go_ret
 exact ⟨rfl,unhide K2⟩
theorem one_err (n:Int) (v b:Value) (w:World) (hv:FracAt w v 0) (h0:(n != 0)=true) (htab:Lib.TabIs Tryz.prog w "internal/strconv.uint64pow10" .u64 Lib.pow10Tab) (hg:w.cell? ⟨0,0,none⟩=some (.iface 169 (.agg #[.pointer (some ⟨6,29,none⟩)]))) :
  Calls Tryz.prog 23 #[v,.iface 33 (.int .i64 n),b,.int .i64 n] w fun e w'=>e=.returned (.bool true)∧But [] w w':=by
 have TZ:=hide (fun W (h:But [] w W)=>fracText_len v 0 W (hv.but h) len_zeroX (TabIs.but htab h) ⟨#[48]⟩ txt_zero.symm)
 have TE:=hide (fun W (h:But [] w W)=>tell_errno n W (h.cell_some hg (by simp)))
 obtain ⟨x,y,p,rfl,-⟩:=id hv.agg
 clear htab hg hv
 generalize decide ((0:Rat).num<0)=s at *
 obtain ⟨V,hV⟩:∃ V,V=w.alloc (.cells #[.bool s,.int .u64 x,.int .u64 y,.pointer p] 27):=⟨_,rfl⟩
 obtain ⟨g,hg⟩:∃ g,g=w.heap.size:=⟨_,rfl⟩
 have c0:V.cell? ⟨g,0,none⟩=some (.bool s):=by rw [hV,hg];simp
 have c1:V.cell? ⟨g,1,none⟩=some (.int .u64 x):=by rw [hV,hg];simp
 have c2:V.cell? ⟨g,2,none⟩=some (.int .u64 y):=by rw [hV,hg];simp
 have c3:V.cell? ⟨g,3,none⟩=some (.pointer p):=by rw [hV,hg];simp
 have bV:But [] w V:=by rw [hV];exact (But.refl _ _).alloc _
 have BV:=hide bV
 have HV:=hide hV
 clear bV hV
 go_enter Tryz.func23,Tryz.ntmps23
 go_wp2_with fail
 rw [← unhide HV]
 try rw [← hg]
 clear hg HV
 refine (unhide TE V (unhide BV)).mono ?_
 rintro e w2 ⟨rfl,B3⟩
 replace c0:=B3.cell_some c0 (by simp)
 replace c1:=B3.cell_some c1 (by simp)
 replace c2:=B3.cell_some c2 (by simp)
 replace c3:=B3.cell_some c3 (by simp)
 have B4:=hide ((unhide BV).trans' B3)
 clear B3
 go_wp2_with fail
 refine (unhide TZ _ (unhide B4)).mono ?_
 rintro e w3 ⟨rfl,B5⟩
 have B6:=hide ((unhide B4).trans' B5)
 clear B5
 go_wp2
 go_ret
 exact ⟨rfl,unhide B6⟩
end Go.Proofs.YtollloafckcogaaGreatDoor
