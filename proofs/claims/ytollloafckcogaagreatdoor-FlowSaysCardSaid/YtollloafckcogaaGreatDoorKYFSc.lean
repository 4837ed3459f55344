/- Package flow: what no payments are worth -/
import Derived.Test.YtollloafckcogaaGreatDoorKYFLe
import Derived.Test.YtollloafckcogaaGreatDoorKYRLd
namespace Go.Proofs.YtollloafckcogaaGreatDoor
open Go.RowKit Go.Shelf
set_option maxHeartbeats 8000000
set_option maxRecDepth 100000
attribute [local go_sem] Oper.semAt_some
set_option linter.unusedVariables false
theorem checkPay_err (vp vr:Value) (z:Int) (w:World) (CK:Calls Tryz.prog 49 #[vr] w fun e w'=>e=.returned (.iface 33 (.int .i64 z))∧But [] w w') :
  Calls Tryz.prog 56 #[vp,vr] w fun e w'=>e=.returned (.iface 33 (.int .i64 z))∧But [] w w':=by
 have C1:=hide CK
 clear CK
 go_enter Tryz.func56,Tryz.ntmps56
 go_wp2_with fail
 refine (unhide C1).mono ?_
 rintro e w1 ⟨rfl,hb⟩
 have B1:=hide hb
 clear hb C1
 go_wp2
 go_ret
 exact ⟨rfl,unhide B1⟩
theorem checkPay_form (ap ar:Option Addr) (np nr cp cr:Nat) (w:World) (hn:nr+1<np) (hn2:nr<1000000) (CK:Calls Tryz.prog 49 #[.slice ar nr cr] w fun e w'=>e=.returned .nilIface∧But [] w w') :
  Calls Tryz.prog 56 #[.slice ap np cp,.slice ar nr cr] w fun e w'=>e=.returned (.iface 33 (.int .i64 3))∧But [] w w':=by
 have C1:=hide CK
 clear CK
 go_enter Tryz.func56,Tryz.ntmps56
 go_wp2_with fail
 refine (unhide C1).mono ?_
 rintro e w1 ⟨rfl,hb⟩
 have B1:=hide hb
 clear hb C1
 go_wp2
 go_ret
 exact ⟨rfl,unhide B1⟩
theorem checkPay_ok (ap ar:Option Addr) (np nr cp cr:Nat) (w:World) (hn:np≤nr+1) (hn2:nr<1000000) (CK:Calls Tryz.prog 49 #[.slice ar nr cr] w fun e w'=>e=.returned .nilIface∧But [] w w') :
  Calls Tryz.prog 56 #[.slice ap np cp,.slice ar nr cr] w fun e w'=>e=.returned .nilIface∧But [] w w':=by
 have C1:=hide CK
 clear CK
 go_enter Tryz.func56,Tryz.ntmps56
 go_wp2_with fail
 refine (unhide C1).mono ?_
 rintro e w1 ⟨rfl,hb⟩
 have B1:=hide hb
 clear hb C1
 go_wp2
 go_ret
 exact ⟨rfl,unhide B1⟩
theorem flowValue_err (vp vr:Value) (z:Int) (w:World) (CK:∀ W,But [] w W→Calls Tryz.prog 56 #[vp,vr] W fun e w'=>e=.returned (.iface 33 (.int .i64 z))∧But [] W w') :
  Calls Tryz.prog 18 #[vp,vr] w fun e w'=>∃ v,e=.returned (.tuple #[v,.iface 33 (.int .i64 z)])∧FracAt w' v 0∧But [] w w':=by
 obtain ⟨W,hW⟩:∃ W,W=w.alloc (.cells #[.bool false,.int .u64 0,.int .u64 0,.pointer none] 27):=⟨_,rfl⟩
 have hb:But [] w W:=by rw [hW];exact (But.refl _ _).alloc _
 obtain ⟨g4,hg4⟩:∃ g,g=w.heap.size:=⟨_,rfl⟩
 have c4:P4 W g4 false 0 0 none:=by rw [hW,hg4];exact ⟨by simp,by simp,by simp,by simp⟩
 have z4:∀ j,W.frozen? ⟨g4,j,none⟩=false:=by rw [hW,hg4];intro j;simp
 have C1:=hide (CK W hb)
 have HB:=hide hb
 have HW:=hide hW
 have bx:BoxAt W g4 0:=⟨⟨false,0,0,none,c4,zero_at _⟩,z4⟩
 have BX:=hide bx
 have o4:Hid (w.heap.size≤g4):=Nat.le_of_eq hg4.symm
 clear CK hW hb c4 z4 bx
 go_enter Tryz.func18,Tryz.ntmps18
 go_wp2_with fail
 rw [← unhide HW,← hg4]
 clear HW hg4
 refine (unhide C1).mono ?_
 rintro e w1 ⟨rfl,hb1⟩
 obtain ⟨⟨s4,x4,y4,p4,c4,f4⟩,z4⟩:=(unhide BX).but hb1
 obtain ⟨r0,r1,r2,r3⟩:=id c4
 have B1:Hid (But [] w w1):=(unhide HB).trans' hb1
 have C4:=hide c4
 clear f4 hb1 C1 BX HB c4
 go_wp2
 have hP:=put4_but w1 g4 false 0 0 none
 obtain ⟨t0,t1,t2,t3⟩:=put4_p4 w1 g4 false 0 0 none (unhide C4)
 have hF:But [] w (put4 w1 g4 false 0 0 none):=(unhide B1).trans hP (fun x hx=>by simp at hx;subst hx;exact .inr (unhide o4))
 change bodyPost _ _ _ _ _ (put4 w1 g4 false 0 0 none)
 generalize put4 w1 g4 false 0 0 none=V at *
 exact bodyPost_ret (v:=.tuple #[.agg #[.bool false,.int .u64 0,.int .u64 0,.pointer none],.iface 33 (.int .i64 z)]) (by simp [results,Tryz.results18,go_sem,t0,t1,t2,t3]) rfl ⟨_,rfl,zero_at _,hF⟩
theorem flowValue_ok (vp vr:Value) (r:Rat) (w:World) (CK:∀ W,But [] w W→Calls Tryz.prog 56 #[vp,vr] W fun e w'=>e=.returned .nilIface∧But [] W w')
  (WO:∀ W,But [] w W→Calls Tryz.prog 57 #[vp,vr] W fun e w'=>∃ v,e=.returned v∧FracAt w' v r∧But [] W w') :
  Calls Tryz.prog 18 #[vp,vr] w fun e w'=>∃ v,e=.returned (.tuple #[v,.nilIface])∧FracAt w' v r∧But [] w w':=by
 obtain ⟨W,hW⟩:∃ W,W=w.alloc (.cells #[.bool false,.int .u64 0,.int .u64 0,.pointer none] 27):=⟨_,rfl⟩
 have hb:But [] w W:=by rw [hW];exact (But.refl _ _).alloc _
 obtain ⟨g4,hg4⟩:∃ g,g=w.heap.size:=⟨_,rfl⟩
 have c4:P4 W g4 false 0 0 none:=by rw [hW,hg4];exact ⟨by simp,by simp,by simp,by simp⟩
 have z4:∀ j,W.frozen? ⟨g4,j,none⟩=false:=by rw [hW,hg4];intro j;simp
 have C1:=hide (CK W hb)
 have W1:=hide WO
 have HB:=hide hb
 have HW:=hide hW
 have bx:BoxAt W g4 0:=⟨⟨false,0,0,none,c4,zero_at _⟩,z4⟩
 have BX:=hide bx
 have o4:Hid (w.heap.size≤g4):=Nat.le_of_eq hg4.symm
 clear CK WO hW hb c4 z4 bx
 go_enter Tryz.func18,Tryz.ntmps18
 go_wp2_with fail
 rw [← unhide HW,← hg4]
 clear HW hg4
 refine (unhide C1).mono ?_
 rintro e w1 ⟨rfl,hb1⟩
 have BX1:=hide ((unhide BX).but hb1)
 have B1:Hid (But [] w w1):=(unhide HB).trans' hb1
 clear hb1 C1 BX HB
 go_wp2_with fail
 refine (unhide W1 _ (unhide B1)).mono ?_
 rintro e w2 ⟨v,rfl,hf,hb2⟩
 obtain ⟨xv,yv,pv,rfl,-⟩:=hf.agg
 obtain ⟨⟨s4,x4,y4,p4,c4,f4⟩,z4⟩:=(unhide BX1).but hb2
 obtain ⟨r0,r1,r2,r3⟩:=id c4
 have B2:Hid (But [] w w2):=(unhide B1).trans' hb2
 have C4:=hide c4
 have HF:=hide hf
 clear f4 hf hb2 W1 BX1 B1 c4
 generalize decide (r.num<0)=sv at *
 go_wp2
 have hP:=put4_but w2 g4 sv xv yv pv
 obtain ⟨t0,t1,t2,t3⟩:=put4_p4 w2 g4 sv xv yv pv (unhide C4)
 have hF:But [] w (put4 w2 g4 sv xv yv pv):=(unhide B2).trans hP (fun x hx=>by simp at hx;subst hx;exact .inr (unhide o4))
 have hff:FracAt (put4 w2 g4 sv xv yv pv) (.agg #[.bool sv,.int .u64 xv,.int .u64 yv,.pointer pv]) r:=(unhide HF).over r0 hP
 change bodyPost _ _ _ _ _ (put4 w2 g4 sv xv yv pv)
 generalize put4 w2 g4 sv xv yv pv=V at *
 exact bodyPost_ret (v:=.tuple #[.agg #[.bool sv,.int .u64 xv,.int .u64 yv,.pointer pv],.nilIface]) (by simp [results,Tryz.results18,go_sem,t0,t1,t2,t3]) rfl ⟨_,rfl,hff,hF⟩
end Go.Proofs.YtollloafckcogaaGreatDoor

namespace Go.Proofs.YtollloafckcogaaGreatDoor
open Go.RowKit
set_option maxHeartbeats 16000000
set_option maxRecDepth 100000
set_option linter.unusedVariables false
theorem set4_put (w:World) (g:Nat) (s:Bool) (x y:Int) (p:Option Addr):w.setCells g (0) [.bool s,.int .u64 x,.int .u64 y,.pointer p]=put4 w g s x y p:=rfl
theorem box_stage {w V w3:World} {g4 g7:Nat} {q r:Rat} {za:FZ} (h7:BoxAt V g7 q) (h4:BoxAt V g4 0) (hb:But [] w V) (o7:w.heap.size≤g7) (o47:g4≠g7) (h3:But [] V w3) (hf:FracAt w3 (.agg #[.bool za.1,.int .u64 za.2.1,.int .u64 za.2.2.1,.pointer za.2.2.2]) r) :
  BoxAt (put4 w3 g7 za.1 za.2.1 za.2.2.1 za.2.2.2) g7 r∧BoxAt (put4 w3 g7 za.1 za.2.1 za.2.2.1 za.2.2.2) g4 0∧But [] w (put4 w3 g7 za.1 za.2.1 za.2.2.1 za.2.2.2):=by
 have b7:=h7.but h3
 have hP:=put4_but w3 g7 za.1 za.2.1 za.2.2.1 za.2.2.2
 exact ⟨b7.put hf,(h4.but h3).beside hP (by simpa using o47) (fun g hg=>by simp at hg;subst hg;exact b7.bool),(hb.trans' h3).trans hP (fun x hx=>by simp at hx;subst hx;exact .inr o7)⟩
theorem flowGrown_err (vp vr:Value) (z:Int) (w:World) (CK:∀ W,But [] w W→Calls Tryz.prog 56 #[vp,vr] W fun e w'=>e=.returned (.iface 33 (.int .i64 z))∧But [] W w') :
  Calls Tryz.prog 19 #[vp,vr] w fun e w'=>∃ v,e=.returned (.tuple #[v,.iface 33 (.int .i64 z)])∧FracAt w' v 0∧But [] w w':=by
 obtain ⟨W,hW⟩:∃ W,W=w.alloc (.cells #[.bool false,.int .u64 0,.int .u64 0,.pointer none] 27):=⟨_,rfl⟩
 have hb:But [] w W:=by rw [hW];exact (But.refl _ _).alloc _
 obtain ⟨g4,hg4⟩:∃ g,g=w.heap.size:=⟨_,rfl⟩
 have c4:P4 W g4 false 0 0 none:=by rw [hW,hg4];exact ⟨by simp,by simp,by simp,by simp⟩
 have z4:∀ j,W.frozen? ⟨g4,j,none⟩=false:=by rw [hW,hg4];intro j;simp
 have C1:=hide (CK W hb)
 have HB:=hide hb
 have HW:=hide hW
 have bx:BoxAt W g4 0:=⟨⟨false,0,0,none,c4,zero_at _⟩,z4⟩
 have BX:=hide bx
 have o4:Hid (w.heap.size≤g4):=Nat.le_of_eq hg4.symm
 clear CK hW hb c4 z4 bx
 go_enter Tryz.func19,Tryz.ntmps19
 go_wp2_with fail
 rw [← unhide HW,← hg4]
 clear HW hg4
 refine (unhide C1).mono ?_
 rintro e w1 ⟨rfl,hb1⟩
 obtain ⟨⟨s4,x4,y4,p4,c4,f4⟩,z4⟩:=(unhide BX).but hb1
 obtain ⟨r0,r1,r2,r3⟩:=id c4
 have B1:Hid (But [] w w1):=(unhide HB).trans' hb1
 have C4:=hide c4
 clear f4 hb1 C1 BX HB c4
 go_wp2
 have hP:=put4_but w1 g4 false 0 0 none
 obtain ⟨t0,t1,t2,t3⟩:=put4_p4 w1 g4 false 0 0 none (unhide C4)
 have hF:But [] w (put4 w1 g4 false 0 0 none):=(unhide B1).trans hP (fun x hx=>by simp at hx;subst hx;exact .inr (unhide o4))
 change bodyPost _ _ _ _ _ (put4 w1 g4 false 0 0 none)
 generalize put4 w1 g4 false 0 0 none=V at *
 exact bodyPost_ret (v:=.tuple #[.agg #[.bool false,.int .u64 0,.int .u64 0,.pointer none],.iface 33 (.int .i64 z)]) (by simp [results,Tryz.results19,go_sem,t0,t1,t2,t3]) rfl ⟨_,rfl,zero_at _,hF⟩
theorem flowGrown_ok (vp vr:Value) (ps rs:List Rat) (P R:Nat→Rat) (w:World) (hp:FracsAt w vp ps) (hr:FracsAt w vr rs) (hP:∀ i,i<ps.length→ps[i]?.getD 0=P i) (hR:∀ i,i<rs.length→rs[i]?.getD 0=R i) (hl:ps.length≤rs.length+1) (hn:rs.length≤120) (lp:∀ i,i<ps.length→Len (P i) 1) (lr:∀ i,i<rs.length→Len (R i) 1)
  (CK:∀ W,But [] w W→Calls Tryz.prog 56 #[vp,vr] W fun e w'=>e=.returned .nilIface∧But [] W w') :
  Calls Tryz.prog 19 #[vp,vr] w fun e w'=>∃ v,e=.returned (.tuple #[v,.nilIface])∧FracAt w' v (grR P R ps.length (rs.length+1))∧But [] w w':=by
 obtain ⟨ap,cp,rfl,hcp,hcP⟩:=fracs_cells hp hP
 obtain ⟨ar,cr,rfl,hcr,hcR⟩:=fracs_cells hr hR
 have HP:=hide hcP
 have HR:=hide hcR
 have HG:=hide (gr_len P R ps.length rs.length lp lr)
 have HL:=hide (And.intro lp lr)
 clear hp hr hP hR lp lr hcP hcR
 obtain ⟨np,hnp⟩:∃ n,n=ps.length:=⟨_,rfl⟩
 rw [← hnp] at hl hcp CK HP HG HL
 rw [← hnp]
 clear hnp
 obtain ⟨n,hnn⟩:∃ n,n=rs.length:=⟨_,rfl⟩
 rw [← hnn] at hl hn hcr CK HR HG HL
 rw [← hnn]
 clear hnn
 obtain ⟨W,hW⟩:∃ W,W=w.alloc (.cells #[.bool false,.int .u64 0,.int .u64 0,.pointer none] 27):=⟨_,rfl⟩
 have hb:But [] w W:=by rw [hW];exact (But.refl _ _).alloc _
 obtain ⟨g4,hg4⟩:∃ g,g=w.heap.size:=⟨_,rfl⟩
 have c4:P4 W g4 false 0 0 none:=by rw [hW,hg4];exact ⟨by simp,by simp,by simp,by simp⟩
 have z4:∀ j,W.frozen? ⟨g4,j,none⟩=false:=by rw [hW,hg4];intro j;simp
 have C1:=hide (CK W hb)
 have HB:=hide hb
 have HW:=hide hW
 have bx:BoxAt W g4 0:=⟨⟨false,0,0,none,c4,zero_at _⟩,z4⟩
 have BX:=hide bx
 have o4:Hid (w.heap.size≤g4):=Nat.le_of_eq hg4.symm
 clear CK hW hb c4 z4 bx
 obtain ⟨N,hN⟩:∃ N,N=n+1:=⟨_,rfl⟩
 have hNI:(n:Int)+1=(N:Int):=by omega
 have hN0:0<N:=by omega
 have hNb:N≤121:=by omega
 have HN:=hide hN
 clear hN
 go_enter Tryz.func19,Tryz.ntmps19
 go_wp2_with fail
 rw [← unhide HW,← hg4]
 clear HW hg4
 refine (unhide C1).mono ?_
 rintro e w1 ⟨rfl,hb1⟩
 have bx1:=(unhide BX).but hb1
 have B1:But [] w w1:=(unhide HB).trans' hb1
 obtain ⟨U,hU⟩:∃ U,U=w1.alloc (.cells #[.bool false,.int .u64 0,.int .u64 0,.pointer none] 27):=⟨_,rfl⟩
 have bU:But [] w1 U:=by rw [hU];exact (But.refl _ _).alloc _
 obtain ⟨g7,hg7⟩:∃ g,g=w1.heap.size:=⟨_,rfl⟩
 have bx7:BoxAt U g7 (grR P R np 0):=by rw [hU,hg7];exact BoxAt.new w1 false 0 0 none _ _ (zero_at _)
 have O47:Hid (g4≠g7):=by show _≠_;have:=bx1.lt;omega
 have O7:Hid (w.heap.size≤g7):=by show _≤_;rw [hg7];exact B1.size
 have I0:Hid (BoxAt U g7 (grR P R np 0)∧BoxAt U g4 0∧But [] w U):=⟨bx7,bx1.but bU,B1.trans' bU⟩
 have HU:=hide hU
 clear hU bU bx7 bx1 B1 hb1 C1 BX HB
 go_wp2
 rw [← unhide HU,← hg7]
 clear HU hg7
 go_loopw [19] (fun i wr=>∃ k:Nat,k≤N∧i=.int .i64 (k:Int)∧Hid (BoxAt wr g7 (grR P R np k)∧BoxAt wr g4 0∧But [] w wr)) (fun i _=>N-(intOf i).toNat)
 case atStart=>exact ⟨0,Nat.zero_le _,rfl,unhide I0⟩
 case round =>
  obtain ⟨k,hk,rfl,HI⟩:=hrel
  rename World=>wr
  clear I0
  by_cases hlt:k<N
  ·by_cases hk0:k=0
   ·subst hk0
    obtain ⟨q,hq⟩:∃ q,q=grR P R np 0:=⟨_,rfl⟩
    have HQ:Hid ((if (0:Nat)=0 then grR P R np 0 else grR P R np 0*(1+R (0-1)))=q):=by show _=_;rw [if_pos rfl];exact hq.symm
    have LQ:Hid (Len q 900):=by show Len q 900;rw [hq];exact (unhide HG 0 (by omega)).mono (by omega)
    have XV:Hid (BoxAt wr g7 q∧BoxAt wr g4 0∧But [] w wr):=by show BoxAt _ _ _∧_;rw [hq];exact unhide HI
    clear HI hq
    by_cases hp:0<np
    ·obtain ⟨b,off,sq,xq,yq,pq,rfl,hbl,cq,hfq⟩:=unhide HP wr (unhide XV).2.2 0 hp
     obtain ⟨⟨st,xt,yt,pt,ct,hft⟩,fz⟩:=(unhide XV).1
     have AD:=hide (fun W (hb:But [] wr W)=>in_prod (fracAdd_gen 900 2 (by omega) _ _ q (P 0) W (hft.but hb) (hfq.but hb) (unhide LQ) ((unhide HL).1 0 hp |>.mono (by omega))))
     have CQ:=hide cq
     have CT:=hide ct
     obtain ⟨q0,q1,q2,q3⟩:=cq
     obtain ⟨t0,t1,t2,t3⟩:=ct
     clear hfq hft hbl
     go_wp2_with fail
     refine grown_region11 11 _ _ wr g7 b off np cp 0 (q+P 0) st xt yt pt sq xq yq pq (by simp) (by simp [Act.eval]) (by simp [Act.eval]) (by simp [Act.eval]) hp (by omega) (unhide CT) (unhide CQ) fz (unhide AD) ?_
     intro za w3 hP2
     simp only [putted,List.foldl_cons,List.foldl_nil,Act.put,List.setIfInBounds_toArray,List.set_cons_zero,List.set_cons_succ]
     have NS:Hid (BoxAt (w3.setCells g7 (0) [.bool za.1,.int .u64 za.2.1,.int .u64 za.2.2.1,.pointer za.2.2.2]) g7 (grR P R np (0+1))∧BoxAt (w3.setCells g7 (0) [.bool za.1,.int .u64 za.2.1,.int .u64 za.2.2.1,.pointer za.2.2.2]) g4 0∧But [] w (w3.setCells g7 (0) [.bool za.1,.int .u64 za.2.1,.int .u64 za.2.2.1,.pointer za.2.2.2])):=by
      show BoxAt _ _ _∧BoxAt _ _ _∧But _ _ _
      rw [set4_put,show grR P R np (0+1)=q+P 0 from by show _+(if 0<np then P 0 else 0)=_;rw [if_pos hp];exact congrArg (· + P 0) (unhide HQ)]
      exact box_stage (unhide XV).1 (unhide XV).2.1 (unhide XV).2.2 (unhide O7) (unhide O47) hP2.mem (hP2.f5 rfl)
     clear hP2 XV CQ CT AD q0 q1 q2 q3 t0 t1 t2 t3 fz
     generalize w3.setCells g7 (0) [.bool za.1,.int .u64 za.2.1,.int .u64 za.2.2.1,.pointer za.2.2.2]=T at *
     go_wp2
     exact ⟨⟨0+1,by omega,by go_num,unhide NS⟩,by simp [intOf];omega⟩
    ·have NS:Hid (BoxAt wr g7 (grR P R np (0+1))∧BoxAt wr g4 0∧But [] w wr):=by
      show BoxAt _ _ _∧_
      rw [show grR P R np (0+1)=q from by show _+(if 0<np then P 0 else 0)=_;rw [if_neg hp];exact (Rat.add_zero _).trans (unhide HQ)]
      exact unhide XV
     clear XV
     go_wp2
     exact ⟨⟨0+1,by omega,by go_num,unhide NS⟩,by simp [intOf];omega⟩
   ·have kp:0<k:=by omega
    obtain ⟨kk,hkk⟩:∃ kk,k=kk+1:=⟨k-1,by omega⟩
    have hkn:kk<n:=by have:=unhide HN;omega
    obtain ⟨b,off,sq,xq,yq,pq,rfl,hbl,cq,hfq⟩:=unhide HR wr (unhide HI).2.2 kk hkn
    obtain ⟨⟨st,xt,yt,pt,ct,hft⟩,fz⟩:=(unhide HI).1
    have lg:Len (grR P R np k) 800:=(unhide HG k (by have:=unhide HN;omega)).mono (by omega)
    have lq:Len (1+R kk) 3:=len_add (len_int 1 (by decide)) ((unhide HL).2 kk hkn) 3 (by omega)
    have GR:=hide (fun W (hb:But [] wr W)=>in_prod (growth_any _ (R kk) W (hfq.but hb) ((unhide HL).2 kk hkn)))
    have MU:=hide (fun W (z:FZ) (hb:But [] wr W) (h:FracAt W (.agg #[.bool z.1,.int .u64 z.2.1,.int .u64 z.2.2.1,.pointer z.2.2.2]) (1+R kk))=>in_prod (r:=grR P R np k*(1+R kk)) (fracMul_any _ _ _ _ W (hft.but hb) h (lg.mono (by omega)) (lq.mono (by omega))))
    have LQ0:Hid (Len (grR P R np k*(1+R kk)) 900):=len_mul lg lq 900 (by omega)
    have CQ:=hide cq
    have CT:=hide ct
    obtain ⟨q0,q1,q2,q3⟩:=cq
    obtain ⟨t0,t1,t2,t3⟩:=ct
    clear hfq hft hbl lg lq
    go_wp2_with fail
    refine grown_region9 9 _ _ wr g7 b off n cr k kk (1+R kk) (grR P R np k*(1+R kk)) st xt yt pt sq xq yq pq (by simp) (by simp [Act.eval]) (by simp [Act.eval]) (by simp [Act.eval]) hkn hkk (by omega) (unhide CT) (unhide CQ) fz (unhide GR) (unhide MU) ?_
    intro za zb w2 hP2
    simp only [putted,List.foldl_cons,List.foldl_nil,Act.put,List.setIfInBounds_toArray,List.set_cons_zero,List.set_cons_succ]
    obtain ⟨q,hq⟩:∃ q,q=grR P R np k*(1+R kk):=⟨_,rfl⟩
    have HQ:Hid ((if k=0 then grR P R np k else grR P R np k*(1+R (k-1)))=q):=by show _=_;rw [if_neg hk0,hq,hkk,Nat.add_sub_cancel]
    have LQ:Hid (Len q 900):=by show Len q 900;rw [hq];exact unhide LQ0
    have XV:Hid (BoxAt (w2.setCells g7 (0) [.bool zb.1,.int .u64 zb.2.1,.int .u64 zb.2.2.1,.pointer zb.2.2.2]) g7 q∧BoxAt (w2.setCells g7 (0) [.bool zb.1,.int .u64 zb.2.1,.int .u64 zb.2.2.1,.pointer zb.2.2.2]) g4 0∧But [] w (w2.setCells g7 (0) [.bool zb.1,.int .u64 zb.2.1,.int .u64 zb.2.2.1,.pointer zb.2.2.2])):=by
     show BoxAt _ _ _∧BoxAt _ _ _∧But _ _ _
     rw [set4_put,hq]
     exact box_stage (unhide HI).1 (unhide HI).2.1 (unhide HI).2.2 (unhide O7) (unhide O47) hP2.mem (hP2.f7 rfl)
    clear hP2 HI CQ CT GR MU LQ0 q0 q1 q2 q3 t0 t1 t2 t3 fz hq
    generalize w2.setCells g7 (0) [.bool zb.1,.int .u64 zb.2.1,.int .u64 zb.2.2.1,.pointer zb.2.2.2]=V at *
    by_cases hp:k<np
    ·obtain ⟨b,off,sq,xq,yq,pq,rfl,hbl,cq,hfq⟩:=unhide HP V (unhide XV).2.2 k hp
     obtain ⟨⟨st,xt,yt,pt,ct,hft⟩,fz⟩:=(unhide XV).1
     have AD:=hide (fun W (hb:But [] V W)=>in_prod (fracAdd_gen 900 2 (by omega) _ _ q (P k) W (hft.but hb) (hfq.but hb) (unhide LQ) ((unhide HL).1 k hp |>.mono (by omega))))
     have CQ:=hide cq
     have CT:=hide ct
     obtain ⟨q0,q1,q2,q3⟩:=cq
     obtain ⟨t0,t1,t2,t3⟩:=ct
     clear hfq hft hbl
     go_wp2_with fail
     refine grown_region11 11 _ _ V g7 b off np cp k (q+P k) st xt yt pt sq xq yq pq (by simp) (by simp [Act.eval]) (by simp [Act.eval]) (by simp [Act.eval]) hp (by omega) (unhide CT) (unhide CQ) fz (unhide AD) ?_
     intro za w3 hP2
     simp only [putted,List.foldl_cons,List.foldl_nil,Act.put,List.setIfInBounds_toArray,List.set_cons_zero,List.set_cons_succ]
     have NS:Hid (BoxAt (w3.setCells g7 (0) [.bool za.1,.int .u64 za.2.1,.int .u64 za.2.2.1,.pointer za.2.2.2]) g7 (grR P R np (k+1))∧BoxAt (w3.setCells g7 (0) [.bool za.1,.int .u64 za.2.1,.int .u64 za.2.2.1,.pointer za.2.2.2]) g4 0∧But [] w (w3.setCells g7 (0) [.bool za.1,.int .u64 za.2.1,.int .u64 za.2.2.1,.pointer za.2.2.2])):=by
      show BoxAt _ _ _∧BoxAt _ _ _∧But _ _ _
      rw [set4_put,show grR P R np (k+1)=q+P k from by show _+(if k<np then P k else 0)=_;rw [if_pos hp];exact congrArg (· + P k) (unhide HQ)]
      exact box_stage (unhide XV).1 (unhide XV).2.1 (unhide XV).2.2 (unhide O7) (unhide O47) hP2.mem (hP2.f5 rfl)
     clear hP2 XV CQ CT AD q0 q1 q2 q3 t0 t1 t2 t3 fz
     generalize w3.setCells g7 (0) [.bool za.1,.int .u64 za.2.1,.int .u64 za.2.2.1,.pointer za.2.2.2]=T at *
     go_wp2
     exact ⟨⟨k+1,by omega,by go_num,unhide NS⟩,by simp [intOf];omega⟩
    ·have NS:Hid (BoxAt V g7 (grR P R np (k+1))∧BoxAt V g4 0∧But [] w V):=by
      show BoxAt _ _ _∧_
      rw [show grR P R np (k+1)=q from by show _+(if k<np then P k else 0)=_;rw [if_neg hp];exact (Rat.add_zero _).trans (unhide HQ)]
      exact unhide XV
     clear XV
     go_wp2
     exact ⟨⟨k+1,by omega,by go_num,unhide NS⟩,by simp [intOf];omega⟩
  ·obtain rfl:k=N:=by omega
   obtain ⟨⟨st,xt,yt,pt,ct,hft⟩,fz⟩:=(unhide HI).1
   obtain ⟨⟨s4,x4,y4,p4,c4,f4⟩,z4⟩:=(unhide HI).2.1
   obtain ⟨t0,t1,t2,t3⟩:=ct
   obtain ⟨r0,r1,r2,r3⟩:=id c4
   have C4:=hide c4
   have HF:=hide hft
   clear hft f4 c4
   go_wp2
   have hP:=put4_but wr g4 st xt yt pt
   obtain ⟨u0,u1,u2,u3⟩:=put4_p4 wr g4 st xt yt pt (unhide C4)
   have hF:But [] w (put4 wr g4 st xt yt pt):=(unhide HI).2.2.trans hP (fun x hx=>by simp at hx;subst hx;exact .inr (unhide o4))
   have hff:FracAt (put4 wr g4 st xt yt pt) (.agg #[.bool st,.int .u64 xt,.int .u64 yt,.pointer pt]) (grR P R np k):=(unhide HF).over r0 hP
   rw [unhide HN] at hff
   change bodyPost _ _ _ _ _ (put4 wr g4 st xt yt pt)
   generalize put4 wr g4 st xt yt pt=V at *
   exact bodyPost_ret (v:=.tuple #[.agg #[.bool st,.int .u64 xt,.int .u64 yt,.pointer pt],.nilIface]) (by simp [results,Tryz.results19,go_sem,u0,u1,u2,u3]) rfl ⟨_,rfl,hff,hF⟩
end Go.Proofs.YtollloafckcogaaGreatDoor
