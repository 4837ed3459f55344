/- The law FlowLoans: whatever debt and rat -/
import Derived.Test.YtollloafckcogaaGreatDoorKFFLb
import Derived.Test.YtollloafckcogaaGreatDoorKFRLf
namespace Go.Proofs.YtollloafckcogaaGreatDoor
open Go.RowKit
set_option maxHeartbeats 16000000
set_option maxRecDepth 100000
set_option linter.unusedVariables false
theorem first_bad {P:Nat→Prop}:∀ n,(∃ t,t<n∧¬ P t)→∃ m,m<n∧¬ P m∧∀ i,i<m→P i
 | 0,⟨t,h,_⟩=>by omega
 | n+1,⟨t,h,hp⟩=>by
  by_cases h1:∃ t,t<n∧¬ P t
  ·obtain ⟨m,a,b,c⟩:=first_bad n h1
   exact ⟨m,by omega,b,c⟩
  ·have hall:∀ i,i<n→P i:=fun i hi=>Classical.byContradiction fun hn=>h1 ⟨i,hi,hn⟩
   have:t=n:=Classical.byContradiction fun hne=>hp (hall t (by omega))
   subst this
   exact ⟨t,by omega,hp,hall⟩
theorem flowLoans_many (d1 u1:Int) (a:Option Addr) (n c:Nat) (w:World) (hn:30<n) :
  Calls Tryz.prog 5 #[.agg #[.int .i64 d1,.int .i64 u1],.slice a n c] w fun e w'=>e=.returned (.bool true)∧But [] w w':=by
 have bw:But [] w (w.alloc (.cells #[.int .i64 d1,.int .i64 u1] 23)):=(But.refl _ _).alloc _
 go_enter Tryz.func5,Tryz.ntmps5
 go_wp2
 go_ret
 exact ⟨rfl,bw⟩
theorem flowLoans_ok (d1 u1:Int) (v:Value) (n:Nat) (rs:List Rat) (D:Rat) (s1:Bool) (x1 y1:Int) (p1:Option Addr) (w:World) (c:Rat) (I B L:Nat→Rat) (lc:Len c 1000000) (lI:∀ i,i<n→Len (I i) 1000000) (lB:∀ i,i<n→Len (B i) 1000000) (lL:∀ i,i<n→Len (L i) 1000000) (hv:∃ a cap,v=.slice a n cap) (hn:n≤30)
  (PF:∀ W,Calls Tryz.prog 7 #[.agg #[.int .i64 d1,.int .i64 u1]] W fun e w'=>e=.returned (.agg #[.bool s1,.int .u64 x1,.int .u64 y1,.pointer p1])∧But [] W w')
  (FS:∀ W,But [] w W→Calls Tryz.prog 14 #[v] W fun e w'=>∃ v',e=.returned v'∧FracsAt w' v' rs∧But [] W w')
  (LO:∀ W vr,FracsAt W vr rs→Calls Tryz.prog 24 #[.agg #[.bool s1,.int .u64 x1,.int .u64 y1,.pointer p1],vr] W fun e w'=>∃ s x y p g,e=.returned (.tuple #[.agg #[.bool s,.int .u64 x,.int .u64 y,.pointer p],.slice (some ⟨g,0,none⟩) n n,.nilIface])∧FracAt w' (.agg #[.bool s,.int .u64 x,.int .u64 y,.pointer p]) c∧Parts w' g n n I B L∧g<w'.heap.size∧But [] W w')
  (OA:∀ W,Calls Tryz.prog 12 #[.agg #[.int .i64 d1,.int .i64 u1]] W fun e w'=>∃ b,e=.returned (.pointer (some ⟨b,0,none⟩))∧RatIs w' b D∧But [] W w')
  (LI:∀ W,But [] w W→Calls Tryz.prog 16 #[v] W fun e w'=>∃ v',e=.returned v'∧RatsAt w' v' rs∧But [] W w')
  (RL:∀ W db vr,RatIs W db D→RatsAt W vr rs→Calls Tryz.prog 25 #[.pointer (some ⟨db,0,none⟩),vr] W fun e w'=>∃ pb g m,e=.returned (.tuple #[.pointer (some ⟨pb,0,none⟩),.slice (some ⟨g,0,none⟩) n m,.int .i64 0])∧RatIs w' pb c∧(∀ i,i<n→∃ u,w'.cell? ⟨g,i,none⟩=some u∧Row3At w' u (I i) (B i) (L i))∧But [] W w')
  (htab:Lib.TabIs Tryz.prog w "internal/strconv.uint64pow10" .u64 Lib.pow10Tab) (herr:w.cell? ⟨0,0,none⟩=some (.iface 169 (.agg #[.pointer (some ⟨6,29,none⟩)]))) :
  Calls Tryz.prog 5 #[.agg #[.int .i64 d1,.int .i64 u1],v] w fun e w'=>e=.returned (.bool true)∧But [] w w':=by
 have PFH:=hide PF
 have FSH:=hide FS
 have LOH:=hide LO
 have OAH:=hide OA
 have LIH:=hide LI
 have RLH:=hide RL
 have ONE:=hide (fun W (hb:But [] w W) va b (h1:FracAt W va c) (h2:RatIs W b c)=>one_ok va c b W h1 h2 lc (TabIs.but htab hb))
 have TXP:=hide (fun W (hb:But [] w W) va f (h1:FracAt W va f) (lf:Len f 1000000)=>fracText_len va f W h1 lf (TabIs.but htab hb) (txtF f) rfl)
 have LEN:=hide (And.intro lI (And.intro lB lL))
 clear lc lI lB lL
 obtain ⟨a,cap,rfl⟩:=hv
 clear PF FS LO OA LI RL htab herr
 obtain ⟨W1,hW1⟩:∃ W1,W1=w.alloc (.cells #[.int .i64 d1,.int .i64 u1] 23):=⟨_,rfl⟩
 obtain ⟨g2,hg2⟩:∃ g,g=w.heap.size:=⟨_,rfl⟩
 have b1:But [] w W1:=by rw [hW1];exact (But.refl _ _).alloc _
 have c20:W1.cell? ⟨g2,0,none⟩=some (.int .i64 d1):=by rw [hW1,hg2];simp
 have c21:W1.cell? ⟨g2,1,none⟩=some (.int .i64 u1):=by rw [hW1,hg2];simp
 have B1:=hide b1
 have HW1:=hide hW1
 clear b1 hW1
 go_enter Tryz.func5,Tryz.ntmps5
 go_wp2_with fail
 rw [← unhide HW1]
 try rw [← hg2]
 clear hg2 HW1
 refine (unhide PFH W1).mono ?_
 rintro e w2 ⟨rfl,hb2⟩
 replace c20:=hb2.cell_some c20 (by simp)
 replace c21:=hb2.cell_some c21 (by simp)
 have B2:=hide ((unhide B1).trans' hb2)
 clear hb2 B1 PFH
 go_wp2_with fail
 refine (unhide FSH w2 (unhide B2)).mono ?_
 rintro e w3 ⟨vf,rfl,hf,hb3⟩
 have L3:=hide (unhide LOH w3 vf hf)
 replace c20:=hb3.cell_some c20 (by simp)
 replace c21:=hb3.cell_some c21 (by simp)
 have B3:=hide ((unhide B2).trans' hb3)
 clear hb3 hf B2 FSH LOH
 go_wp2_with fail
 refine (unhide L3).mono ?_
 rintro e w4 ⟨s5,x5,y5,p5,gp,rfl,hpay,hparts,hgp,hb4⟩
 obtain ⟨V,hV⟩:∃ V,V=w4.alloc (.cells #[.bool s5,.int .u64 x5,.int .u64 y5,.pointer p5] 27):=⟨_,rfl⟩
 have bV:But [] w4 V:=by rw [hV];exact (But.refl _ _).alloc _
 obtain ⟨g5,hg5⟩:∃ g,g=w4.heap.size:=⟨_,rfl⟩
 have k0:V.cell? ⟨g5,0,none⟩=some (.bool s5):=by rw [hV,hg5];simp
 have k1:V.cell? ⟨g5,1,none⟩=some (.int .u64 x5):=by rw [hV,hg5];simp
 have k2:V.cell? ⟨g5,2,none⟩=some (.int .u64 y5):=by rw [hV,hg5];simp
 have k3:V.cell? ⟨g5,3,none⟩=some (.pointer p5):=by rw [hV,hg5];simp
 replace c20:=hb4.cell_some c20 (by simp)
 replace c21:=hb4.cell_some c21 (by simp)
 have l2:g2<w4.heap.size:=lt_of_cell c20
 have n2:g2≠w4.heap.size:=Nat.ne_of_lt l2
 have K0:=hide (And.intro k0 (And.intro k1 (And.intro k2 k3)))
 have B4:=hide (((unhide B3).trans' hb4).trans' bV)
 have PA:=hide (hpay.but bV)
 have PT:=hide (hparts.but bV hgp)
 have GP:=hide (Nat.lt_of_lt_of_le hgp bV.size)
 clear hpay hparts hgp
 have HV:=hide hV
 clear hb4 bV k0 k1 k2 k3 hV B3 L3
 go_wp2_with fail
 rw [← unhide HV,← hg5]
 clear HV hg5 c20 c21 l2 n2
 refine (unhide OAH V).mono ?_
 rintro e w5 ⟨db,rfl,hd,hb5⟩
 have S5:=hide (And.intro hb5 hd)
 clear hb5 hd OAH
 go_wp2_with fail
 refine (unhide LIH w5 ((unhide B4).trans' (unhide S5).1)).mono ?_
 rintro e w6 ⟨vl,rfl,hl,hb6⟩
 have L6:=hide (unhide RLH w6 db vl ((unhide S5).2.but hb6) hl)
 have S6:=hide ((unhide S5).1.trans' hb6)
 clear hl hb6 S5 LIH RLH
 go_wp2_with fail
 refine (unhide L6).mono ?_
 rintro e w7 ⟨pb,gr,m,rfl,hpb,hus,hb7⟩
 have b47:=(unhide S6).trans' hb7
 obtain ⟨k0,k1,k2,k3⟩:=unhide K0
 replace k0:=b47.cell_some k0 (by simp)
 replace k1:=b47.cell_some k1 (by simp)
 replace k2:=b47.cell_some k2 (by simp)
 replace k3:=b47.cell_some k3 (by simp)
 have B7:=hide ((unhide B4).trans' b47)
 have O7:=hide (unhide ONE w7 ((unhide B4).trans' b47) _ pb ((unhide PA).but b47) hpb)
 have P7:=hide ((unhide PT).but b47 (unhide GP))
 have G7:=hide (Nat.lt_of_lt_of_le (unhide GP) b47.size)
 have U7:=hide hus
 clear b47 hb7 hpb hus S6 L6 K0 B4 PA PT GP ONE
 go_wp2_with fail
 refine (unhide O7).mono ?_
 rintro e w8 ⟨rfl,hb8⟩
 have B8:=hide ((unhide B7).trans' hb8)
 have P8:=hide ((unhide P7).but hb8 (unhide G7))
 have G8:=hide (Nat.lt_of_lt_of_le (unhide G7) hb8.size)
 have U8:Hid (∀ i,i<n→∃ u,w8.cell? ⟨gr,i,none⟩=some u∧Row3At w8 u (I i) (B i) (L i)):=fun i hi=>(unhide U7 i hi).elim fun u ⟨h1,h2⟩=>⟨u,hb8.cell_some h1 (by simp),h2.but hb8⟩
 clear hb8 k0 k1 k2 k3 B7 P7 G7 U7 O7
 go_wp2
 go_loopw [11] (fun i wr=>∃ k:Nat,k≤n∧i=.int .i64 (k:Int)∧Hid (But [] w8 wr)) (fun i _=>n-(intOf i).toNat)
 case atStart=>exact ⟨0,Nat.zero_le _,rfl,But.refl _ _⟩
 case round =>
  obtain ⟨k,hk,rfl,HI⟩:=hrel
  rename World=>wr
  by_cases hlt:k<n
  ·obtain ⟨u,hu,hr3⟩:=unhide U8 k hlt
   obtain ⟨gi,q0,q1,q2,rfl,r0,r1,r2,r3,r4,r5⟩:=id hr3
   obtain ⟨h1,h2,h3⟩:=(unhide P8).told k hlt
   obtain ⟨sa,xa,ya,pa,ca,fa⟩:=h1
   obtain ⟨sb,xb,yb,pb2,cb,fb⟩:=h2
   obtain ⟨sc,xc,yc,pc,cc,fc⟩:=h3
   have hI:=unhide HI
   have bw:But [] w wr:=(unhide B8).trans' hI
   obtain ⟨lI,lB,lL⟩:=unhide LEN
   go_wp2
   refine loans_region10 10 _ _ wr gp gr gi n m k (txtF (I k)) (txtF (B k)) (txtF (L k)) sa xa ya pa sb xb yb pb2 sc xc yc pc (by simp) (by simp [Act.eval]) (by simp [Act.eval]) (by simp [Act.eval]) hlt (by omega) (ca.but hI (by simp)) (cb.but hI (by simp)) (cc.but hI (by simp)) (hI.cell_some hu (by simp)) (fun W hb=>unhide TXP W (bw.trans' hb) _ _ ((fa.but hI).but hb) (lI k hlt)) (fun W hb=>unhide TXP W (bw.trans' hb) _ _ ((fb.but hI).but hb) (lB k hlt)) (fun W hb=>unhide TXP W (bw.trans' hb) _ _ ((fc.but hI).but hb) (lL k hlt)) (fun W hb=>?_) (fun W g v' hb h1 h2=>same_eq _ v' _ W h1 h2 (by simp)) ?_
   ·refine (refTexts_any _ [I k,B k,L k] W ((hr3.but (hI.trans' hb)).rats) (fun f hf=>?_) (by simp)).mono ?_
    ·simp only [List.mem_cons,List.not_mem_nil,or_false] at hf
     rcases hf with rfl | rfl | rfl
     ·exact lI k hlt
     ·exact lB k hlt
     ·exact lL k hlt
    ·rintro e w' ⟨v',he,ho,hb'⟩
     exact ⟨v',he,ho.txts,hb'⟩
   ·intro gs vt w9 hP
    simp only [putted,List.foldl_cons,List.foldl_nil,Act.put,List.setIfInBounds_toArray,List.set_cons_zero,List.set_cons_succ]
    have NS:=hide (hI.trans' hP.mem)
    clear hP hI bw lI lB lL ca cb cc fa fb fc hr3 hu r0 r1 r2 r3 r4 r5
    go_wp2
    exact ⟨⟨k+1,by omega,by go_num,unhide NS⟩,by simp [intOf];omega⟩
  ·obtain rfl:k=n:=by omega
   go_wp2
   go_ret
   exact ⟨rfl,(unhide B8).trans' (unhide HI)⟩
theorem flowLoans_bad (d1 u1:Int) (v:Value) (n:Nat) (rs:List Rat) (D:Rat) (s1:Bool) (x1 y1:Int) (p1:Option Addr) (w:World)  (hv:∃ a cap,v=.slice a n cap) (hn:n≤30)
  (PF:∀ W,Calls Tryz.prog 7 #[.agg #[.int .i64 d1,.int .i64 u1]] W fun e w'=>e=.returned (.agg #[.bool s1,.int .u64 x1,.int .u64 y1,.pointer p1])∧But [] W w')
  (FS:∀ W,But [] w W→Calls Tryz.prog 14 #[v] W fun e w'=>∃ v',e=.returned v'∧FracsAt w' v' rs∧But [] W w')
  (LO:∀ W vr,FracsAt W vr rs→Calls Tryz.prog 24 #[.agg #[.bool s1,.int .u64 x1,.int .u64 y1,.pointer p1],vr] W fun e w'=>e=.returned (.tuple #[.agg #[.bool false,.int .u64 0,.int .u64 0,.pointer none],.slice none 0 0,.iface 33 (.int .i64 1)])∧But [] W w')
  (OA:∀ W,Calls Tryz.prog 12 #[.agg #[.int .i64 d1,.int .i64 u1]] W fun e w'=>∃ b,e=.returned (.pointer (some ⟨b,0,none⟩))∧RatIs w' b D∧But [] W w')
  (LI:∀ W,But [] w W→Calls Tryz.prog 16 #[v] W fun e w'=>∃ v',e=.returned v'∧RatsAt w' v' rs∧But [] W w')
  (RL:∀ W db vr,RatIs W db D→RatsAt W vr rs→Calls Tryz.prog 25 #[.pointer (some ⟨db,0,none⟩),vr] W fun e w'=>e=.returned (.tuple #[.pointer none,.slice none 0 0,.int .i64 1])∧But [] W w')
  (htab:Lib.TabIs Tryz.prog w "internal/strconv.uint64pow10" .u64 Lib.pow10Tab) (herr:w.cell? ⟨0,0,none⟩=some (.iface 169 (.agg #[.pointer (some ⟨6,29,none⟩)]))) :
  Calls Tryz.prog 5 #[.agg #[.int .i64 d1,.int .i64 u1],v] w fun e w'=>e=.returned (.bool true)∧But [] w w':=by
 have PFH:=hide PF
 have FSH:=hide FS
 have LOH:=hide LO
 have OAH:=hide OA
 have LIH:=hide LI
 have RLH:=hide RL
 have ONE:=hide (fun W (hb:But [] w W)=>one_err 1 (.agg #[.bool false,.int .u64 0,.int .u64 0,.pointer none]) (.pointer none) W (zero_at W) (by decide) (TabIs.but htab hb) (hb.cell_some herr (by simp)))
 obtain ⟨a,cap,rfl⟩:=hv
 clear PF FS LO OA LI RL htab herr
 obtain ⟨W1,hW1⟩:∃ W1,W1=w.alloc (.cells #[.int .i64 d1,.int .i64 u1] 23):=⟨_,rfl⟩
 obtain ⟨g2,hg2⟩:∃ g,g=w.heap.size:=⟨_,rfl⟩
 have b1:But [] w W1:=by rw [hW1];exact (But.refl _ _).alloc _
 have c20:W1.cell? ⟨g2,0,none⟩=some (.int .i64 d1):=by rw [hW1,hg2];simp
 have c21:W1.cell? ⟨g2,1,none⟩=some (.int .i64 u1):=by rw [hW1,hg2];simp
 have B1:=hide b1
 have HW1:=hide hW1
 clear b1 hW1
 go_enter Tryz.func5,Tryz.ntmps5
 go_wp2_with fail
 rw [← unhide HW1]
 try rw [← hg2]
 clear hg2 HW1
 refine (unhide PFH W1).mono ?_
 rintro e w2 ⟨rfl,hb2⟩
 replace c20:=hb2.cell_some c20 (by simp)
 replace c21:=hb2.cell_some c21 (by simp)
 have B2:=hide ((unhide B1).trans' hb2)
 clear hb2 B1 PFH
 go_wp2_with fail
 refine (unhide FSH w2 (unhide B2)).mono ?_
 rintro e w3 ⟨vf,rfl,hf,hb3⟩
 have L3:=hide (unhide LOH w3 vf hf)
 replace c20:=hb3.cell_some c20 (by simp)
 replace c21:=hb3.cell_some c21 (by simp)
 have B3:=hide ((unhide B2).trans' hb3)
 clear hb3 hf B2 FSH LOH
 go_wp2_with fail
 refine (unhide L3).mono ?_
 rintro e w4 ⟨rfl,hb4⟩
 obtain ⟨V,hV⟩:∃ V,V=w4.alloc (.cells #[.bool false,.int .u64 0,.int .u64 0,.pointer none] 27):=⟨_,rfl⟩
 have bV:But [] w4 V:=by rw [hV];exact (But.refl _ _).alloc _
 obtain ⟨g5,hg5⟩:∃ g,g=w4.heap.size:=⟨_,rfl⟩
 have k0:V.cell? ⟨g5,0,none⟩=some (.bool false):=by rw [hV,hg5];simp
 have k1:V.cell? ⟨g5,1,none⟩=some (.int .u64 0):=by rw [hV,hg5];simp
 have k2:V.cell? ⟨g5,2,none⟩=some (.int .u64 0):=by rw [hV,hg5];simp
 have k3:V.cell? ⟨g5,3,none⟩=some (.pointer none):=by rw [hV,hg5];simp
 replace c20:=hb4.cell_some c20 (by simp)
 replace c21:=hb4.cell_some c21 (by simp)
 have l2:g2<w4.heap.size:=lt_of_cell c20
 have n2:g2≠w4.heap.size:=Nat.ne_of_lt l2
 have K0:=hide (And.intro k0 (And.intro k1 (And.intro k2 k3)))
 have B4:=hide (((unhide B3).trans' hb4).trans' bV)
 have HV:=hide hV
 clear hb4 bV k0 k1 k2 k3 hV B3 L3
 go_wp2_with fail
 rw [← unhide HV,← hg5]
 clear HV hg5 c20 c21 l2 n2
 refine (unhide OAH V).mono ?_
 rintro e w5 ⟨db,rfl,hd,hb5⟩
 have S5:=hide (And.intro hb5 hd)
 clear hb5 hd OAH
 go_wp2_with fail
 refine (unhide LIH w5 ((unhide B4).trans' (unhide S5).1)).mono ?_
 rintro e w6 ⟨vl,rfl,hl,hb6⟩
 have L6:=hide (unhide RLH w6 db vl ((unhide S5).2.but hb6) hl)
 have S6:=hide ((unhide S5).1.trans' hb6)
 clear hl hb6 S5 LIH RLH
 go_wp2_with fail
 refine (unhide L6).mono ?_
 rintro e w7 ⟨rfl,hb7⟩
 have b47:=(unhide S6).trans' hb7
 obtain ⟨k0,k1,k2,k3⟩:=unhide K0
 replace k0:=b47.cell_some k0 (by simp)
 replace k1:=b47.cell_some k1 (by simp)
 replace k2:=b47.cell_some k2 (by simp)
 replace k3:=b47.cell_some k3 (by simp)
 have B7:=hide ((unhide B4).trans' b47)
 clear b47 hb7 S6 L6 K0 B4
 go_wp2_with fail
 refine (unhide ONE w7 (unhide B7)).mono ?_
 rintro e w8 ⟨rfl,hb8⟩
 have B8:=hide ((unhide B7).trans' hb8)
 clear hb8 k0 k1 k2 k3 B7 ONE
 go_wp2
 go_loopw [11] (fun i wr=>i=.int .i64 0∧wr=w8) (fun _ _=>0)
 case atStart=>exact ⟨rfl,rfl⟩
 case round =>
  obtain ⟨rfl,rfl⟩:=hrel
  go_wp2
  go_ret
  exact ⟨rfl,unhide B8⟩
theorem flowLoans_any (d1 u1:Int) (hq:Fits (d1,u1)) (v:Value) (qs:List (Int × Int)) (w:World) (hv:QsAt w v qs) (hf:∀ q ∈ qs,Fits q)
  (htab:Lib.TabIs Tryz.prog w "internal/strconv.uint64pow10" .u64 Lib.pow10Tab) (herr:w.cell? ⟨0,0,none⟩=some (.iface 169 (.agg #[.pointer (some ⟨6,29,none⟩)]))) :
  Calls Tryz.prog 5 #[.agg #[.int .i64 d1,.int .i64 u1],v] w fun e w'=>e=.returned (.bool true)∧But [] w w':=by
 obtain ⟨a,cap,e,hcap,-⟩:=id hv
 by_cases hn:qs.length≤30
 case neg =>
  rw [e]
  exact flowLoans_many d1 u1 a qs.length cap w (by omega)
 obtain ⟨s1,x1,y1,lD,FD,CD⟩:=plainF_at (d1,u1) hq
 obtain ⟨D,hD⟩:∃ D,D=qf (d1,u1):=⟨_,rfl⟩
 rw [← hD] at lD FD
 obtain ⟨rs,hrs⟩:∃ rs,rs=qs.map qf:=⟨_,rfl⟩
 have hlen:rs.length=qs.length:=by rw [hrs,List.length_map]
 have hlr:∀ r ∈ rs,Len r 1:=fun r hr=>by
  rw [hrs] at hr
  obtain ⟨q,hm,rfl⟩:=List.mem_map.1 hr
  obtain ⟨_,_,_,l,-,-⟩:=plainF_at q (hf q hm)
  exact l
 obtain ⟨R,hRd⟩:∃ R:Nat→Rat,R=fun i=>rs[i]?.getD 0:=⟨_,rfl⟩
 have hR0:∀ i,rs[i]?.getD 0=R i:=fun i=>by rw [hRd]
 have hR:∀ i,i<rs.length→rs[i]? = some (R i):=fun i hi=>by rw [← hR0,List.getElem?_eq_getElem hi];rfl
 have hlR:∀ i,i<rs.length→Len (R i) 1:=fun i hi=>by
  have:=hR i hi
  rw [List.getElem?_eq_getElem hi] at this
  rw [← Option.some.inj this]
  exact hlr _ (List.getElem_mem hi)
 have FS:∀ W,But [] w W→Calls Tryz.prog 14 #[v] W fun e w'=>∃ v',e=.returned v'∧FracsAt w' v' rs∧But [] W w':=fun W hb=>(plainFs_any v qs W (hv.but hb) hf (by omega)).mono fun e w' ⟨v',vs,he,hh,hb'⟩=>⟨v',he,by rw [hrs];exact hh.fracs,hb'⟩
 have LI:∀ W,But [] w W→Calls Tryz.prog 16 #[v] W fun e w'=>∃ v',e=.returned v'∧RatsAt w' v' rs∧But [] W w':=fun W hb=>(refList_any v qs W (hv.but hb) hf (by omega)).mono fun e w' ⟨v',us,he,hh,hb'⟩=>⟨v',he,by rw [hrs];exact hh.rats,hb'⟩
 have OA:∀ W,Calls Tryz.prog 12 #[.agg #[.int .i64 d1,.int .i64 u1]] W fun e w'=>∃ b,e=.returned (.pointer (some ⟨b,0,none⟩))∧RatIs w' b D∧But [] W w':=fun W=>refOfQ d1 u1 D W hq.1 hq.2.1 hq.2.2.1 hq.2.2.2 (by rw [hD];exact qf_parts _ hq)
 by_cases hbad:LoanBad rs
 ·refine flowLoans_bad d1 u1 v qs.length rs D s1 x1 y1 none w ⟨a,cap,e⟩ hn CD FS (fun W vr hr=>?_) OA LI (fun W db vr hd hr=>?_) htab herr
  ·refine (loan_any _ vr D rs W (FD W) hr lD hlr (by omega)).mono ?_
   rintro e' w' ⟨hb,hh⟩
   rcases hh with ⟨-,he⟩ | ⟨h0,hg,-⟩
   ·exact ⟨he,hb⟩
   ·exfalso
    rcases hbad with h | ⟨t,ht,hn⟩
    ·omega
    ·rw [List.getElem?_eq_getElem ht] at hn
     exact hn (numPosL.2 (hg _ (List.getElem_mem ht)))
  ·rcases Nat.eq_zero_or_pos rs.length with h0 | h0
   ·obtain ⟨a',c',ev,hc'⟩:=hr.open
    rw [h0] at ev
    subst ev
    refine refLoan_none db a' c' W ((refDisc_ok _ rs R W hr hR (by omega) hlR (fun i hi=>by omega)).mono ?_)
    rintro e' w' ⟨v',us,he,-,hb⟩
    exact ⟨v',he,hb⟩
   ·have hex:∃ t,t<rs.length∧¬ 0<1+R t:=by
     rcases hbad with h | ⟨t,ht,hn⟩
     ·omega
     ·exact ⟨t,ht,fun h=>hn (by rw [hR0];exact numPosL.2 h)⟩
    obtain ⟨m,hm,hmb,hmg⟩:=first_bad (P:=fun t=>0<1+R t) rs.length hex
    exact refLoan_bad db vr 1 W (by decide) (refDisc_bad vr rs R W hr hR (by omega) hlR m hm hmg hmb)
 ·have h0:0<rs.length:=Nat.pos_of_ne_zero fun h=>hbad (.inl h)
  have hgR:∀ i,i<rs.length→0<1+R i:=fun i hi=>Classical.byContradiction fun hn=>hbad (.inr ⟨i,hi,fun h=>hn (by rw [hR0] at h;exact numPosL.1 h)⟩)
  have hg:∀ r ∈ rs,0<1+r:=fun r hm=>by
   obtain ⟨t,ht,rfl⟩:=List.mem_iff_getElem.1 hm
   have:=hR t ht
   rw [List.getElem?_eq_getElem ht] at this
   rw [Option.some.inj this]
   exact hgR t ht
  have hu0:=unitW_pos rs hg h0
  obtain ⟨c,hc⟩:∃ c,c=D/unitW rs:=⟨_,rfl⟩
  have lc:Len c 62:=by rw [hc];exact len_div lD (unitW_len rs hg hlr (by omega)) (Int.ne_of_gt (numPosL.2 hu0)) 62 (by omega)
  have lL:∀ i,Len (leftR c rs i) 123:=fun i=>len_mul lc (unitW_len (rs.drop i) (fun r hr=>hg r (List.mem_of_mem_drop hr)) (fun r hr=>hlr r (List.mem_of_mem_drop hr)) (by rw [List.length_drop];omega)) 123 (by omega)
  have lI:∀ i,i<rs.length→Len (intR c rs i) 124:=fun i hi=>len_mul (by rw [hR0];exact hlR i hi) (lL i) 124 (by omega)
  have lB:∀ i,i<rs.length→Len (backR c rs i) 187:=fun i hi=>len_sub lc (lI i hi) 187 (by omega)
  refine flowLoans_ok d1 u1 v qs.length rs D s1 x1 y1 none w c (intR c rs) (backR c rs) (fun i=>leftR c rs (i+1)) (lc.mono (by omega)) (fun i hi=>(lI i (by omega)).mono (by omega)) (fun i hi=>(lB i (by omega)).mono (by omega)) (fun i hi=>(lL (i+1)).mono (by omega)) ⟨a,cap,e⟩ hn CD FS (fun W vr hr=>?_) OA LI (fun W db vr hd hr=>?_) htab herr
  ·refine (loan_any _ vr D rs W (FD W) hr lD hlr (by omega)).mono ?_
   rintro e' w' ⟨hb,hh⟩
   rcases hh with ⟨h,-⟩ | ⟨-,-,s,x,y,p,g,he,hfr,hp⟩
   ·exact absurd h hbad
   ·rw [← hc] at hfr hp
    rw [hlen] at he hp
    obtain ⟨sb,hsb⟩:=hp.bool (by omega)
    exact ⟨s,x,y,p,g,he,hfr,hp,lt_of_cell hsb,hb⟩
  ·refine (refLoan_ok db vr D rs R W hd hr hR (by omega) h0 lD hlR hgR).mono ?_
   rintro e' w' ⟨pb,v',us,he,hpb,ho,hb⟩
   rw [← hc] at hpb ho
   obtain ⟨g,m,ev,-,-,-,hall⟩:=ho.block h0
   rw [ev,hlen] at he
   refine ⟨pb,g,m,he,hpb,fun i hi=>?_,hb⟩
   obtain ⟨u,hu,h3⟩:=ho.val i (by omega)
   exact ⟨u,hall i u hu,h3⟩
end Go.Proofs.YtollloafckcogaaGreatDoor
