/- The reference's discounts.  -/
import Derived.Test.YtollloafckcogaaGreatDoorKFRLb
import Derived.Test.YtollloafckcogaaGreatDoorKFRLq
import Derived.Test.YtollloafckcogaaGreatDoorKFV6
namespace Go.Proofs.YtollloafckcogaaGreatDoor
open Go.RowKit
set_option maxHeartbeats 16000000
set_option maxRecDepth 100000
set_option linter.unusedVariables false
def discR (r:Nat→Rat):Nat→Rat
 | 0=>1
 | i+1=>discR r i/(1+r i)
theorem numPosL {x:Rat}:0<x.num↔0<x:=by
 rw [Rat.lt_iff]
 simp
theorem len_disc {r:Nat→Rat}:∀ n,(∀ i,i<n→0<1+r i)→(∀ i,i<n→Len (r i) 1)→Len (discR r n) (4*n+1)
 | 0,_,_=>(len_int 1 (by decide)).mono (by omega)
 | n+1,h,l=>by
  show Len (discR r n/(1+r n)) _
  have h1:=h n (by omega)
  exact len_div (len_disc n (fun i hi=>h i (by omega)) (fun i hi=>l i (by omega))) (len_add (len_int 1 (by decide)) (l n (by omega)) 3 (by omega)) (Int.ne_of_gt (numPosL.2 h1)) (4*(n+1)+1) (by omega)
theorem OwnR.one (w:World) (u:Value) (f:Rat) (h:PtrIs w u f):OwnR (w.alloc (.cells #[u] 37)) w.heap.size (.slice (some ⟨w.heap.size,0,none⟩) 1 1) [f] [u]:=by
 obtain ⟨g,rfl,hr⟩:=h
 refine ⟨World.ownsRow_lit w #[.pointer (some ⟨g,0,none⟩)] 1 (Nat.le_refl _) (by unfold maxLen;omega) rfl,rfl,fun i x hi=>?_,fun e=>by simp at e⟩
 cases i with
 | zero =>
  simp only [List.getElem?_cons_zero,Option.some.injEq] at hi
  subst hi
  exact ⟨_,rfl,g,rfl,hr.but ((But.refl [] w).alloc _)⟩
 | succ i=>simp at hi
theorem refDisc_ok (v:Value) (rs:List Rat) (R:Nat→Rat) (w:World) (hr:RatsAt w v rs) (hR:∀ i,i<rs.length→rs[i]? = some (R i)) (hn:rs.length≤120) (lr:∀ i,i<rs.length→Len (R i) 1) (hg:∀ i,i<rs.length→0<1+R i) :
  Calls Tryz.prog 15 #[v] w fun e w'=>∃ v' us,e=.returned (.tuple #[v',.int .i64 0])∧OwnR w' w.heap.size v' ((List.range (rs.length+1)).map (discR R)) us∧But [] w w':=by
 have hcell:∀ W,But [] w W→∀ i,i<rs.length→∃ b off g,(∃ a c,v=.slice a rs.length c∧a=some ⟨b,off,none⟩)∧W.cell? ⟨b,off+i,none⟩=some (.pointer (some ⟨g,0,none⟩))∧RatIs W g (R i):=fun W hb i hi=>by
  obtain ⟨a,cap,e,-⟩:=hr.open
  have h0:=hr.but hb
  rw [e] at h0
  obtain ⟨-,b,off,g,f,h1,h2,h3,h4⟩:=h0.at i hi
  rw [hR i hi] at h3
  obtain rfl:=Option.some.inj h3
  exact ⟨b,off,g,⟨a,cap,e,h1⟩,h2,h4⟩
 have I1:Hid (∀ W,Calls Tryz.prog 21 #[.int .i64 1] W fun e w'=>∃ zb,e=.returned (.pointer (some ⟨zb,0,none⟩))∧RatIs w' zb (((1:Int):Rat))∧But [] W w'):=fun W=>refIntQ 1 W (by omega) (by omega)
 obtain ⟨a,cap,rfl,hcap⟩:=hr.open
 have HV:=hide hcell
 have HG:=hide hg
 have HL:=hide lr
 clear hcell hr lr hR hg
 generalize rs.length=n at *
 go_enter Tryz.func15,Tryz.ntmps15
 go_wp2_with fail
 refine (unhide I1 _).mono ?_
 rintro e w1 ⟨g1,rfl,h1,hb1⟩
 have O1:=OwnR.one w1 _ _ ⟨g1,rfl,h1⟩
 have bU:But [] w (w1.alloc (.cells #[.pointer (some ⟨g1,0,none⟩)] 37)):=hb1.alloc _
 have I0:Hid (OwnR (w1.alloc (.cells #[.pointer (some ⟨g1,0,none⟩)] 37)) w.heap.size (.slice (some ⟨w1.heap.size,0,none⟩) 1 1) ((List.range (0+1)).map (discR R)) [.pointer (some ⟨g1,0,none⟩)]∧But [] w (w1.alloc (.cells #[.pointer (some ⟨g1,0,none⟩)] 37))):=⟨O1.mono hb1.size,bU⟩
 clear O1 bU h1 hb1
 go_wp2
 go_loopw [4,15] (fun o i wr=>∃ (k:Nat) (us:List Value),k≤n∧i=.int .i64 (k:Int)∧Hid (OwnR wr w.heap.size o ((List.range (k+1)).map (discR R)) us∧But [] w wr)) (fun _ i _=>n-(intOf i).toNat)
 case atStart=>exact ⟨0,_,Nat.zero_le _,rfl,unhide I0⟩
 case round =>
  obtain ⟨k,us,hk,rfl,HI⟩:=hrel
  rename World=>wr
  clear I0
  by_cases hlt:k<n
  ·have hkn:k<n:=hlt
   have GK:k<n:=hlt
   obtain ⟨b,off,g,⟨a',c',e',ea⟩,c0,hT⟩:=unhide HV wr (unhide HI).2 k hkn
   simp only [Value.slice.injEq] at e'
   obtain ⟨rfl,-,-⟩:=e'
   subst ea
   obtain ⟨go_,capo,eo,ho1,ho2,-,-⟩:=(unhide HI).1.block (by simp)
   have eo':u4=.slice (some ⟨go_,0,none⟩) (k+1) capo:=by rw [eo];simp
   subst eo'
   have hro:=(unhide HI).1.rats
   obtain ⟨-,b2,off2,gd,fd,q1,q2,q3,q4⟩:=hro.at k (by omega)
   simp only [Option.some.injEq,Addr.mk.injEq] at q1
   obtain ⟨rfl,rfl,-⟩:=q1
   rw [List.getElem?_map,List.getElem?_range (by omega)] at q3
   obtain rfl:=Option.some.inj q3
   rw [Nat.zero_add] at q2
   have lD:=lenU_len (len_disc (r:=R) k (fun i hi=>unhide HG i (by omega)) (fun i hi=>unhide HL i (by omega)))
   have lf:=lenU_len (unhide HL k hkn)
   have lg:LenU (((1:Int):Rat)+R k) 5:=((LenU.int (by decide)).add lf).mono (by omega)
   have AD:Hid (∀ W xb,RatIs W xb ((1:Int):Rat)→RatIs W g (R k)→Calls Tryz.prog 53 #[.pointer (some ⟨xb,0,none⟩),.pointer (some ⟨g,0,none⟩)] W fun e w'=>∃ zb,e=.returned (.pointer (some ⟨zb,0,none⟩))∧RatIs w' zb (((1:Int):Rat)+R k)∧But [] W w'):=fun W xb h1 h2=>refAddQ xb g _ _ W h1 h2 ((LenU.int (by decide)).mono (by omega)) (lf.mono (by omega))
   have SG:Hid (∀ W gb,RatIs W gb (((1:Int):Rat)+R k)→Calls Tryz.prog 54 #[.pointer (some ⟨gb,0,none⟩)] W fun e w'=>e=.returned (.int .i64 1)∧But [] W w'):=fun W gb h=>refSignQ gb _ W h 1 (Int.sign_eq_one_of_pos (numPosL.2 (unhide HG k GK))).symm (lg.mono (by omega))
   have DV:Hid (∀ W yb,RatIs W gd (discR R k)→RatIs W yb (((1:Int):Rat)+R k)→Calls Tryz.prog 22 #[.pointer (some ⟨gd,0,none⟩),.pointer (some ⟨yb,0,none⟩)] W fun e w'=>∃ zb,e=.returned (.pointer (some ⟨zb,0,none⟩))∧RatIs w' zb (discR R (k+1))∧But [] W w'):=fun W yb h1 h2=>refDivQ gd yb _ _ _ W h1 h2 (lD.mono (by omega)) (lg.mono (by omega)) (by have:=numPosL.2 (unhide HG k GK);exact fun e=>by rw [show (((1:Int):Rat))=1 from rfl] at e;omega) (Rat.div_mul_cancel (fun e=>by have h0:=unhide HG k GK;rw [e] at h0;exact absurd h0 (by decide)))
   have S0:=hide (And.intro (But.refl [] wr) (And.intro hT q4))
   clear hT q4 hro lD lf lg eo ho1 ho2
   go_wp2_with fail
   refine (unhide I1 _).mono ?_
   rintro e w2 ⟨g2,rfl,h2,hb2⟩
   have S2:=hide (And.intro ((unhide S0).1.trans' hb2) (And.intro ((unhide S0).2.1.but hb2) (And.intro ((unhide S0).2.2.but hb2) h2)))
   clear h2 hb2 S0
   go_wp2_with fail
   refine (unhide AD _ _ (unhide S2).2.2.2 (unhide S2).2.1).mono ?_
   rintro e w3 ⟨g3,rfl,h3,hb3⟩
   have S3:=hide (And.intro ((unhide S2).1.trans' hb3) (And.intro ((unhide S2).2.2.1.but hb3) h3))
   clear h3 hb3 S2
   go_wp2_with fail
   refine (unhide SG _ _ (unhide S3).2.2).mono ?_
   rintro e w4 ⟨rfl,hb4⟩
   have q24:=((unhide S3).1.trans' hb4).cell_some q2 (by simp)
   have S4:=hide (And.intro ((unhide S3).1.trans' hb4) (And.intro ((unhide S3).2.1.but hb4) ((unhide S3).2.2.but hb4)))
   clear hb4 S3 q2
   go_wp2_with fail
   refine (unhide DV _ _ (unhide S4).2.1 (unhide S4).2.2).mono ?_
   rintro e w5 ⟨g5,rfl,h5,hb5⟩
   obtain ⟨V,hV⟩:∃ V,V=w5.alloc (.cells #[.pointer (some ⟨g5,0,none⟩)] 37):=⟨_,rfl⟩
   have bV1:But [] w5 V:=by rw [hV];exact (But.refl _ _).alloc _
   have cc:V.cell? ⟨w5.heap.size,0,none⟩=some (.pointer (some ⟨g5,0,none⟩)):=by rw [hV];simp
   have bV:But [] wr V:=((unhide S4).1.trans' hb5).trans' bV1
   have oV:=(unhide HI).1.but bV
   have bwV:=(unhide HI).2.trans' bV
   obtain ⟨v',w',hr,ho,hB,-⟩:=append_ref V w _ _ us w.heap.size oV w5.heap.size _ (discR R (k+1)) cc ⟨g5,rfl,h5.but bV1⟩ (by simp;omega) bwV (Nat.le_refl _) bwV.size
   have BF:Hid (But [] w w'):=hB
   have HO:=hide ho
   rw [hV] at hr
   have HR:=hide hr
   clear hr ho hB oV bV bwV cc hV bV1 h5 hb5 S4 q24
   go_wp2_with (at_builtin;refine wpList_app rfl _ _ 46 46 rfl _ _ v' w' rfl rfl (unhide HR) ?_)
   refine ⟨⟨k+1,_,by omega,by go_num,by rw [List.range_succ,List.map_append];exact unhide HO,unhide BF⟩,by simp [intOf];omega⟩
  ·obtain rfl:k=n:=by omega
   go_wp2
   exact bodyPost_ret (v:=.tuple #[u4,.int .i64 0]) (by simp [results,Tryz.results15,go_sem]) rfl ⟨_,us,rfl,(unhide HI).1,(unhide HI).2⟩
theorem refDisc_bad (v:Value) (rs:List Rat) (R:Nat→Rat) (w:World) (hr:RatsAt w v rs) (hR:∀ i,i<rs.length→rs[i]? = some (R i)) (hn:rs.length≤120) (lr:∀ i,i<rs.length→Len (R i) 1) (m:Nat) (hm:m<rs.length) (hg:∀ i,i<m→0<1+R i) (hbad:¬ 0<1+R m) :
  Calls Tryz.prog 15 #[v] w fun e w'=>e=.returned (.tuple #[.slice none 0 0,.int .i64 1])∧But [] w w':=by
 have hcell:∀ W,But [] w W→∀ i,i<rs.length→∃ b off g,(∃ a c,v=.slice a rs.length c∧a=some ⟨b,off,none⟩)∧W.cell? ⟨b,off+i,none⟩=some (.pointer (some ⟨g,0,none⟩))∧RatIs W g (R i):=fun W hb i hi=>by
  obtain ⟨a,cap,e,-⟩:=hr.open
  have h0:=hr.but hb
  rw [e] at h0
  obtain ⟨-,b,off,g,f,h1,h2,h3,h4⟩:=h0.at i hi
  rw [hR i hi] at h3
  obtain rfl:=Option.some.inj h3
  exact ⟨b,off,g,⟨a,cap,e,h1⟩,h2,h4⟩
 have I1:Hid (∀ W,Calls Tryz.prog 21 #[.int .i64 1] W fun e w'=>∃ zb,e=.returned (.pointer (some ⟨zb,0,none⟩))∧RatIs w' zb (((1:Int):Rat))∧But [] W w'):=fun W=>refIntQ 1 W (by omega) (by omega)
 obtain ⟨a,cap,rfl,hcap⟩:=hr.open
 have HV:=hide hcell
 have HG:=hide hg
 have HL:=hide lr
 have HB:=hide hbad
 clear hcell hr lr hR hg hbad
 generalize rs.length=n at *
 go_enter Tryz.func15,Tryz.ntmps15
 go_wp2_with fail
 refine (unhide I1 _).mono ?_
 rintro e w1 ⟨g1,rfl,h1,hb1⟩
 have O1:=OwnR.one w1 _ _ ⟨g1,rfl,h1⟩
 have bU:But [] w (w1.alloc (.cells #[.pointer (some ⟨g1,0,none⟩)] 37)):=hb1.alloc _
 have I0:Hid (OwnR (w1.alloc (.cells #[.pointer (some ⟨g1,0,none⟩)] 37)) w.heap.size (.slice (some ⟨w1.heap.size,0,none⟩) 1 1) ((List.range (0+1)).map (discR R)) [.pointer (some ⟨g1,0,none⟩)]∧But [] w (w1.alloc (.cells #[.pointer (some ⟨g1,0,none⟩)] 37))):=⟨O1.mono hb1.size,bU⟩
 clear O1 bU h1 hb1
 go_wp2
 go_loopw [4,15] (fun o i wr=>∃ (k:Nat) (us:List Value),k≤m∧i=.int .i64 (k:Int)∧Hid (OwnR wr w.heap.size o ((List.range (k+1)).map (discR R)) us∧But [] w wr)) (fun _ i _=>n-(intOf i).toNat)
 case atStart=>exact ⟨0,_,Nat.zero_le _,rfl,unhide I0⟩
 case round =>
  obtain ⟨k,us,hk,rfl,HI⟩:=hrel
  rename World=>wr
  clear I0
  by_cases hlt:k<m
  ·have hkn:k<n:=by omega
   have GK:k<m:=hlt
   obtain ⟨b,off,g,⟨a',c',e',ea⟩,c0,hT⟩:=unhide HV wr (unhide HI).2 k hkn
   simp only [Value.slice.injEq] at e'
   obtain ⟨rfl,-,-⟩:=e'
   subst ea
   obtain ⟨go_,capo,eo,ho1,ho2,-,-⟩:=(unhide HI).1.block (by simp)
   have eo':u4=.slice (some ⟨go_,0,none⟩) (k+1) capo:=by rw [eo];simp
   subst eo'
   have hro:=(unhide HI).1.rats
   obtain ⟨-,b2,off2,gd,fd,q1,q2,q3,q4⟩:=hro.at k (by omega)
   simp only [Option.some.injEq,Addr.mk.injEq] at q1
   obtain ⟨rfl,rfl,-⟩:=q1
   rw [List.getElem?_map,List.getElem?_range (by omega)] at q3
   obtain rfl:=Option.some.inj q3
   rw [Nat.zero_add] at q2
   have lD:=lenU_len (len_disc (r:=R) k (fun i hi=>unhide HG i (by omega)) (fun i hi=>unhide HL i (by omega)))
   have lf:=lenU_len (unhide HL k hkn)
   have lg:LenU (((1:Int):Rat)+R k) 5:=((LenU.int (by decide)).add lf).mono (by omega)
   have AD:Hid (∀ W xb,RatIs W xb ((1:Int):Rat)→RatIs W g (R k)→Calls Tryz.prog 53 #[.pointer (some ⟨xb,0,none⟩),.pointer (some ⟨g,0,none⟩)] W fun e w'=>∃ zb,e=.returned (.pointer (some ⟨zb,0,none⟩))∧RatIs w' zb (((1:Int):Rat)+R k)∧But [] W w'):=fun W xb h1 h2=>refAddQ xb g _ _ W h1 h2 ((LenU.int (by decide)).mono (by omega)) (lf.mono (by omega))
   have SG:Hid (∀ W gb,RatIs W gb (((1:Int):Rat)+R k)→Calls Tryz.prog 54 #[.pointer (some ⟨gb,0,none⟩)] W fun e w'=>e=.returned (.int .i64 1)∧But [] W w'):=fun W gb h=>refSignQ gb _ W h 1 (Int.sign_eq_one_of_pos (numPosL.2 (unhide HG k GK))).symm (lg.mono (by omega))
   have DV:Hid (∀ W yb,RatIs W gd (discR R k)→RatIs W yb (((1:Int):Rat)+R k)→Calls Tryz.prog 22 #[.pointer (some ⟨gd,0,none⟩),.pointer (some ⟨yb,0,none⟩)] W fun e w'=>∃ zb,e=.returned (.pointer (some ⟨zb,0,none⟩))∧RatIs w' zb (discR R (k+1))∧But [] W w'):=fun W yb h1 h2=>refDivQ gd yb _ _ _ W h1 h2 (lD.mono (by omega)) (lg.mono (by omega)) (by have:=numPosL.2 (unhide HG k GK);exact fun e=>by rw [show (((1:Int):Rat))=1 from rfl] at e;omega) (Rat.div_mul_cancel (fun e=>by have h0:=unhide HG k GK;rw [e] at h0;exact absurd h0 (by decide)))
   have S0:=hide (And.intro (But.refl [] wr) (And.intro hT q4))
   clear hT q4 hro lD lf lg eo ho1 ho2
   go_wp2_with fail
   refine (unhide I1 _).mono ?_
   rintro e w2 ⟨g2,rfl,h2,hb2⟩
   have S2:=hide (And.intro ((unhide S0).1.trans' hb2) (And.intro ((unhide S0).2.1.but hb2) (And.intro ((unhide S0).2.2.but hb2) h2)))
   clear h2 hb2 S0
   go_wp2_with fail
   refine (unhide AD _ _ (unhide S2).2.2.2 (unhide S2).2.1).mono ?_
   rintro e w3 ⟨g3,rfl,h3,hb3⟩
   have S3:=hide (And.intro ((unhide S2).1.trans' hb3) (And.intro ((unhide S2).2.2.1.but hb3) h3))
   clear h3 hb3 S2
   go_wp2_with fail
   refine (unhide SG _ _ (unhide S3).2.2).mono ?_
   rintro e w4 ⟨rfl,hb4⟩
   have q24:=((unhide S3).1.trans' hb4).cell_some q2 (by simp)
   have S4:=hide (And.intro ((unhide S3).1.trans' hb4) (And.intro ((unhide S3).2.1.but hb4) ((unhide S3).2.2.but hb4)))
   clear hb4 S3 q2
   go_wp2_with fail
   refine (unhide DV _ _ (unhide S4).2.1 (unhide S4).2.2).mono ?_
   rintro e w5 ⟨g5,rfl,h5,hb5⟩
   obtain ⟨V,hV⟩:∃ V,V=w5.alloc (.cells #[.pointer (some ⟨g5,0,none⟩)] 37):=⟨_,rfl⟩
   have bV1:But [] w5 V:=by rw [hV];exact (But.refl _ _).alloc _
   have cc:V.cell? ⟨w5.heap.size,0,none⟩=some (.pointer (some ⟨g5,0,none⟩)):=by rw [hV];simp
   have bV:But [] wr V:=((unhide S4).1.trans' hb5).trans' bV1
   have oV:=(unhide HI).1.but bV
   have bwV:=(unhide HI).2.trans' bV
   obtain ⟨v',w',hr,ho,hB,-⟩:=append_ref V w _ _ us w.heap.size oV w5.heap.size _ (discR R (k+1)) cc ⟨g5,rfl,h5.but bV1⟩ (by simp;omega) bwV (Nat.le_refl _) bwV.size
   have BF:Hid (But [] w w'):=hB
   have HO:=hide ho
   rw [hV] at hr
   have HR:=hide hr
   clear hr ho hB oV bV bwV cc hV bV1 h5 hb5 S4 q24
   go_wp2_with (at_builtin;refine wpList_app rfl _ _ 46 46 rfl _ _ v' w' rfl rfl (unhide HR) ?_)
   refine ⟨⟨k+1,_,by omega,by go_num,by rw [List.range_succ,List.map_append];exact unhide HO,unhide BF⟩,by simp [intOf];omega⟩
  ·obtain rfl:k=m:=by omega
   obtain ⟨b,off,g,⟨a',c',e',ea⟩,c0,hT⟩:=unhide HV wr (unhide HI).2 k hm
   simp only [Value.slice.injEq] at e'
   obtain ⟨rfl,-,-⟩:=e'
   subst ea
   have lf:=lenU_len (unhide HL k hm)
   have lg:LenU (((1:Int):Rat)+R k) 5:=((LenU.int (by decide)).add lf).mono (by omega)
   have AD:Hid (∀ W xb,RatIs W xb ((1:Int):Rat)→RatIs W g (R k)→Calls Tryz.prog 53 #[.pointer (some ⟨xb,0,none⟩),.pointer (some ⟨g,0,none⟩)] W fun e w'=>∃ zb,e=.returned (.pointer (some ⟨zb,0,none⟩))∧RatIs w' zb (((1:Int):Rat)+R k)∧But [] W w'):=fun W xb h1 h2=>refAddQ xb g _ _ W h1 h2 ((LenU.int (by decide)).mono (by omega)) (lf.mono (by omega))
   obtain ⟨sg,hsg⟩:∃ sg,sg=(((1:Int):Rat)+R k).num.sign:=⟨_,rfl⟩
   have sg0:sg≤0:=by
    have hle:(((1:Int):Rat)+R k).num≤0:=Int.not_lt.1 (fun h=>unhide HB (numPosL.1 h))
    rw [hsg]
    rcases Int.lt_or_eq_of_le hle with h | h
    ·rw [Int.sign_eq_neg_one_of_neg h];omega
    ·rw [h];decide
   have SG:Hid (∀ W gb,RatIs W gb (((1:Int):Rat)+R k)→Calls Tryz.prog 54 #[.pointer (some ⟨gb,0,none⟩)] W fun e w'=>e=.returned (.int .i64 sg)∧But [] W w'):=fun W gb h=>refSignQ gb _ W h sg hsg (lg.mono (by omega))
   have S0:=hide (And.intro (unhide HI).2 hT)
   clear hT hsg lf lg
   go_wp2_with fail
   refine (unhide I1 _).mono ?_
   rintro e w2 ⟨g2,rfl,h2,hb2⟩
   have S2:=hide (And.intro ((unhide S0).1.trans' hb2) (And.intro ((unhide S0).2.but hb2) h2))
   clear h2 hb2 S0
   go_wp2_with fail
   refine (unhide AD _ _ (unhide S2).2.2 (unhide S2).2.1).mono ?_
   rintro e w3 ⟨g3,rfl,h3,hb3⟩
   have S3:=hide (And.intro ((unhide S2).1.trans' hb3) h3)
   clear h3 hb3 S2
   go_wp2_with fail
   refine (unhide SG _ _ (unhide S3).2).mono ?_
   rintro e w4 ⟨rfl,hb4⟩
   have S4:=hide ((unhide S3).1.trans' hb4)
   clear hb4 S3
   go_wp2
   exact bodyPost_ret (v:=.tuple #[.slice none 0 0,.int .i64 1]) (by simp [results,Tryz.results15,go_sem]) rfl ⟨rfl,unhide S4⟩
end Go.Proofs.YtollloafckcogaaGreatDoor

namespace Go.Proofs.YtollloafckcogaaGreatDoor
open Go.RowKit
set_option maxHeartbeats 16000000
set_option maxRecDepth 100000
set_option linter.unusedVariables false
def SumAt (w:World) (b:Nat) (f:Rat):Prop:=RatIs w b f∨(f=0∧BlankAt w b)
theorem refAddS (xb yb:Nat) (f g:Rat) (w:World) (hx:SumAt w xb f) (hy:RatIs w yb g) (lf:LenU f 2000000) (lg:LenU g 2000000) :
  Calls Tryz.prog 53 #[.pointer (some ⟨xb,0,none⟩),.pointer (some ⟨yb,0,none⟩)] w fun e w'=>∃ zb,e=.returned (.pointer (some ⟨zb,0,none⟩))∧RatIs w' zb (f+g)∧But [] w w':=by
 rcases hx with h | ⟨h0,h⟩
 ·exact refAddQ xb yb f g w h hy lf lg
 ·exact (refAdd_blank xb yb f g w h0 h hy lf lg).mono fun e w' ⟨zb,he,hb,hr,_⟩=>⟨zb,he,hr,hb⟩
theorem refSum_any (v:Value) (fs:List Rat) (F:Nat→Rat) (w:World) (hr:RatsAt w v fs) (hF:∀ i,i<fs.length→fs[i]? = some (F i)) (hn:fs.length≤1000) (lf:∀ i,i<fs.length→LenU (F i) 2000000) (ls:∀ k,k≤fs.length→LenU (sgR F k) 2000000) :
  Calls Tryz.prog 63 #[v] w fun e w'=>∃ zb,e=.returned (.pointer (some ⟨zb,0,none⟩))∧SumAt w' zb (sgR F fs.length)∧But [] w w':=by
 have hcell:∀ W,But [] w W→∀ i,i<fs.length→∃ b off g,(∃ a c,v=.slice a fs.length c∧a=some ⟨b,off,none⟩)∧W.cell? ⟨b,off+i,none⟩=some (.pointer (some ⟨g,0,none⟩))∧RatIs W g (F i):=fun W hb i hi=>by
  obtain ⟨a,cap,e,-⟩:=hr.open
  have h0:=hr.but hb
  rw [e] at h0
  obtain ⟨-,b,off,g,f,h1,h2,h3,h4⟩:=h0.at i hi
  rw [hF i hi] at h3
  obtain rfl:=Option.some.inj h3
  exact ⟨b,off,g,⟨a,cap,e,h1⟩,h2,h4⟩
 obtain ⟨a,cap,rfl,hcap⟩:=hr.open
 have HV:=hide hcell
 have HL:=hide lf
 have HS:=hide ls
 clear hcell hr hF lf ls
 generalize fs.length=n at *
 have hb0:=blank_new w 92
 have bW:But [] w (w.alloc (.cells #[.bool false,.slice none 0 0,.bool false,.slice none 0 0] 92)):=(But.refl _ _).alloc _
 obtain ⟨W,hW⟩:∃ W,W=w.alloc (.cells #[.bool false,.slice none 0 0,.bool false,.slice none 0 0] 92):=⟨_,rfl⟩
 rw [← hW] at hb0 bW
 obtain ⟨g0,hg0⟩:∃ g,g=w.heap.size:=⟨_,rfl⟩
 rw [← hg0] at hb0
 have I0:Hid (SumAt W g0 (sgR F 0)∧But [] w W):=⟨.inr ⟨rfl,hb0⟩,bW⟩
 have HW:=hide hW
 clear hW hb0 bW
 go_enter Tryz.func63,Tryz.ntmps63
 go_wp2
 rw [← unhide HW,← hg0]
 clear HW hg0
 go_loopw [3,9] (fun p i wr=>∃ (k pb:Nat),k≤n∧i=.int .i64 (k:Int)∧p=.pointer (some ⟨pb,0,none⟩)∧Hid (SumAt wr pb (sgR F k)∧But [] w wr)) (fun _ i _=>n-(intOf i).toNat)
 case atStart=>exact ⟨0,g0,Nat.zero_le _,rfl,rfl,unhide I0⟩
 case round =>
  obtain ⟨k,pb,hk,rfl,rfl,HI⟩:=hrel
  rename World=>wr
  clear I0
  by_cases hlt:k<n
  ·obtain ⟨b,off,g,⟨a',c',e',ea⟩,c0,hT⟩:=unhide HV wr (unhide HI).2 k hlt
   simp only [Value.slice.injEq] at e'
   obtain ⟨rfl,-,-⟩:=e'
   subst ea
   have AD:=hide (refAddS pb g (sgR F k) (F k) wr (unhide HI).1 hT (unhide HS k (by omega)) (unhide HL k hlt))
   clear hT
   go_wp2_with fail
   refine (unhide AD).mono ?_
   rintro e w2 ⟨g2,rfl,h2,hb2⟩
   have NS:Hid (SumAt w2 g2 (sgR F (k+1))∧But [] w w2):=⟨.inl h2,(unhide HI).2.trans' hb2⟩
   clear h2 hb2 AD
   go_wp2
   exact ⟨⟨k+1,g2,by omega,by go_num,rfl,unhide NS⟩,by simp [intOf];omega⟩
  ·obtain rfl:k=n:=by omega
   go_wp2
   go_ret
   exact ⟨pb,rfl,unhide HI⟩
end Go.Proofs.YtollloafckcogaaGreatDoor

namespace Go.Proofs.YtollloafckcogaaGreatDoor
open Go.RowKit
set_option linter.unusedVariables false
def Row3At (w:World) (u:Value) (a b c:Rat):Prop:=∃ g p q r,u=.slice (some ⟨g,0,none⟩) 3 3∧w.cell? ⟨g,0,none⟩=some (.pointer (some ⟨p,0,none⟩))∧w.cell? ⟨g,1,none⟩=some (.pointer (some ⟨q,0,none⟩))∧w.cell? ⟨g,2,none⟩=some (.pointer (some ⟨r,0,none⟩))∧RatIs w p a∧RatIs w q b∧RatIs w r c
theorem Row3At.but {w w':World} {u:Value} {a b c:Rat} (h:Row3At w u a b c) (hb:But [] w w'):Row3At w' u a b c:=by
 obtain ⟨g,p,q,r,e,h0,h1,h2,k0,k1,k2⟩:=h
 exact ⟨g,p,q,r,e,hb.cell_some h0 (by simp),hb.cell_some h1 (by simp),hb.cell_some h2 (by simp),k0.but hb,k1.but hb,k2.but hb⟩
theorem Row3At.over {w w':World} {u:Value} {a b c:Rat} (h:Row3At w u a b c) {g':Nat} {q':Option Addr} {n' c':Nat} (hb:But [g'] w w') (hc:w.cell? ⟨g',0,none⟩=some (.slice q' n' c')):Row3At w' u a b c:=by
 obtain ⟨g,p,q,r,e,h0,h1,h2,k0,k1,k2⟩:=h
 have hn:g ∉ [g']:=by
  intro hm
  simp at hm
  subst hm
  rw [hc] at h0
  simp at h0
 exact ⟨g,p,q,r,e,hb.cell_some h0 hn,hb.cell_some h1 hn,hb.cell_some h2 hn,k0.overU hb hc (noRat_slice _ _ _),k1.overU hb hc (noRat_slice _ _ _),k2.overU hb hc (noRat_slice _ _ _)⟩
theorem Row3At.rats {w:World} {u:Value} {a b c:Rat} (h:Row3At w u a b c):RatsAt w u [a,b,c]:=by
 obtain ⟨g,p,q,r,rfl,h0,h1,h2,k0,k1,k2⟩:=h
 refine ⟨_,3,rfl,Nat.le_refl _,fun i f hi=>?_⟩
 match i,hi with
 | 0,hi=>simp at hi;subst hi;exact ⟨g,0,_,rfl,h0,p,rfl,k0⟩
 | 1,hi=>simp at hi;subst hi;exact ⟨g,0,_,rfl,h1,q,rfl,k1⟩
 | 2,hi=>simp at hi;subst hi;exact ⟨g,0,_,rfl,h2,r,rfl,k2⟩
 | i+3,hi=>simp at hi
theorem info_refs:∃ i,Tryz.prog.info? 46 = some i∧i.zero=some (.slice none 0 0)∧i.size=1∧i.bytes=24:=by
 have h:(Tryz.prog.info? 46).map (fun i=>(i.zero,i.size,i.bytes))=some (some (.slice none 0 0),1,24):=by kernel_rfl
 cases e:Tryz.prog.info? 46 with
 | none=>rw [e] at h;simp at h
 | some i =>
  rw [e] at h
  simp only [Option.map_some,Option.some.injEq,Prod.mk.injEq] at h
  exact ⟨i,rfl,h.1,h.2.1,h.2.2⟩
structure OwnR3 (w:World) (base:Nat) (v:Value) (k:Nat) (I B L:Nat→Rat) (us:List Value):Prop where
 own:w.ownsRow base 46 1 v k us
 len:us.length=k
 val:∀ i,i<k→∃ u,us[i]? = some u∧Row3At w u (I i) (B i) (L i)
 nil:k=0→v=.slice none 0 0
theorem OwnR3.empty (w:World) (base:Nat) (I B L:Nat→Rat):OwnR3 w base (.slice none 0 0) 0 I B L []:=⟨World.ownsRow_nil _ _ _ _,rfl,fun i h=>by omega,fun _=>rfl⟩
theorem OwnR3.but {w w':World} {base:Nat} {v:Value} {k:Nat} {I B L:Nat→Rat} {us:List Value} (h:OwnR3 w base v k I B L us) (hb:But [] w w'):OwnR3 w' base v k I B L us :=
 ⟨ownsRow_but h.own hb,h.len,fun i hi=>(h.val i hi).elim fun u ⟨e,p⟩=>⟨u,e,p.but hb⟩,h.nil⟩
theorem OwnR3.form {w:World} {base:Nat} {v:Value} {k:Nat} {I B L:Nat→Rat} {us:List Value} (h:OwnR3 w base v k I B L us):∃ a c,v=.slice a k c:=ownsRow_form h.own
theorem OwnR3.block {w:World} {base:Nat} {v:Value} {k:Nat} {I B L:Nat→Rat} {us:List Value} (h:OwnR3 w base v k I B L us) (h0:0<k):∃ g cap,v=.slice (some ⟨g,0,none⟩) k cap∧k≤cap∧v.ownBlock=some g∧(∃ q n c,w.cell? ⟨g,0,none⟩=some (.slice q n c))∧∀ i u,us[i]? = some u→w.cell? ⟨g,i,none⟩=some u:=by
 rcases h.own.2 with ⟨-,e⟩ | ⟨g,cap,cur,e,h1,h2,h3,-⟩
 ·omega
 ·have hall:∀ i u,us[i]? = some u→w.cell? ⟨g,i,none⟩=some u:=fun i u hu=>by
   have hc:=h.own.cells (g:=g) (by rw [e];rfl) i u hu
   have ea:(⟨g,0,none⟩:Addr).add i=⟨g,i,none⟩:=by
    by_cases hz:i=0
    ·simp [Addr.add,hz]
    ·simp [Addr.add,hz]
   rw [ea] at hc
   exact hc
  refine ⟨g,cap,e,h3,by rw [e];rfl,?_,hall⟩
  obtain ⟨u,hu,g2,p,q,r,rfl,-⟩:=h.val 0 h0
  exact ⟨_,_,_,hall 0 _ hu⟩
theorem append_row3 (w w0:World) (v:Value) (k:Nat) (I B L:Nat→Rat) (us:List Value) (base:Nat) (hown:OwnR3 w base v k I B L us) (g:Nat) (u:Value) (c:w.cell? ⟨g,0,none⟩=some u) (hp:Row3At w u (I k) (B k) (L k)) (hk:k<1000000) (h0:But [] w0 w) (hb:w0.heap.size≤base) (hw:base≤w.heap.size) :
  ∃ v' w',(Builtin.append_ #[61,61] 61 #[v,.slice (some ⟨g,0,none⟩) 1 1]).run Tryz.prog w=.ok v' w'∧OwnR3 w' base v' (k+1) I B L (us++[u])∧But [] w0 w'∧(∀ (b:Nat) (r:Rat),RatIs w b r→RatIs w' b r):=by
 obtain ⟨i0,hi,hz0,hz1,hz2⟩:=info_refs
 obtain ⟨v',w',hr,ho,hg,-⟩:=run_append_own (P:=Tryz.prog) w base 61 61 46 i0 _ 1 24 Tryz.underlying61 hi hz0 hz1 hz2 rfl (by decide) v k us hown.own ⟨g,0,none⟩ 1 1 [u] rfl (fun j x hj=>by
   cases j with
   | zero=>simp at hj;subst hj;exact c
   | succ j=>simp at hj) (fun x hx=>by
   simp only [List.mem_cons,List.not_mem_nil,or_false] at hx
   subst hx
   obtain ⟨_,_,_,_,rfl,-⟩:=hp
   rfl) (by unfold maxLen;omega) (by omega) hw
 have hB:But v.ownBlock.toList w w':=⟨hg.os,hg.tape,hg.output,hg.size,fun j hj hn=>hg.block j hj (by
  intro e
  rw [← e] at hn
  simp at hn)⟩
 have stay:(∀ (b:Nat) (r:Rat),RatIs w b r→RatIs w' b r)∧∀ x a b c,Row3At w x a b c→Row3At w' x a b c:=by
  by_cases h1:k=0
  ·have:v.ownBlock=none:=by rw [hown.nil h1];rfl
   rw [this] at hB
   exact ⟨fun b r h=>h.but hB,fun x a b c h=>h.but hB⟩
  ·obtain ⟨gb,cap,-,-,e2,⟨q,n,c,hq⟩,-⟩:=hown.block (by omega)
   rw [e2] at hB
   exact ⟨fun b r h=>h.overU hB hq (noRat_slice _ _ _),fun x a b c h=>h.over hB hq⟩
 refine ⟨v',w',hr,⟨ho,by simp [hown.len],fun i hi=>?_,fun e=>by omega⟩,but_of_grown h0 hown.own hb hg,stay.1⟩
 rcases Nat.lt_or_ge i k with hlt | hge
 ·obtain ⟨x,e1,h1⟩:=hown.val i hlt
  exact ⟨x,by rw [List.getElem?_append_left (by rw [hown.len];exact hlt)];exact e1,stay.2 _ _ _ _ h1⟩
 ·obtain rfl:i=k:=by omega
  refine ⟨u,?_,stay.2 _ _ _ _ hp⟩
  rw [List.getElem?_append_right (by rw [hown.len];exact Nat.le_refl _),hown.len,Nat.sub_self]
  rfl
theorem unitW_sum (rs:List Rat) (R:Nat→Rat) (hR:∀ i,i<rs.length→rs[i]?.getD 0=R i) (hg:∀ i,i<rs.length→0<1+R i):∀ k,k≤rs.length→unitW rs=sgR (fun i=>discR R (i+1)) k+unitW (rs.drop k)*discR R k
 | 0,_=>by
  show unitW rs=0+unitW (rs.drop 0)*1
  rw [List.drop_zero];grind
 | k+1,h=>by
  rw [unitW_sum rs R hR hg k (by omega),unitW_step rs k (by omega),hR k (by omega)]
  show _=sgR (fun i=>discR R (i+1)) k+discR R k/(1+R k)+unitW (rs.drop (k+1))*(discR R k/(1+R k))
  simp only [Rat.div_def]
  grind
theorem unitW_total (rs:List Rat) (R:Nat→Rat) (hR:∀ i,i<rs.length→rs[i]?.getD 0=R i) (hg:∀ i,i<rs.length→0<1+R i):sgR (fun i=>discR R (i+1)) rs.length=unitW rs:=by
 have h:=unitW_sum rs R hR hg rs.length (Nat.le_refl _)
 rw [List.drop_length] at h
 rw [h]
 show _=_+0*_
 grind
theorem lenU_sg {F:Nat→Rat} {c:Nat}:∀ n,(∀ i,i<n→LenU (F i) c)→LenU (sgR F n) (n*(c+1)+1)
 | 0,_=>by
  have:=LenU.int (z:=0) (by decide)
  exact ⟨by show (wd 4294967296 0).length≤_;rw [wd_zero];simp,by show (wd 4294967296 1).length≤_;exact Nat.le_trans (wd_length_le (B:=4294967296) (by omega) 1 1 (by omega)) (by omega)⟩
 | n+1,h=>((lenU_sg n (fun i hi=>h i (by omega))).add (h n (by omega))).mono (by rw [Nat.succ_mul];omega)
end Go.Proofs.YtollloafckcogaaGreatDoor
