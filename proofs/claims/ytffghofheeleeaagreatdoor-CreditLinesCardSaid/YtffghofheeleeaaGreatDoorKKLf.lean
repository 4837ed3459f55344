/- What package credit says of kinds that m -/
import Derived.Test.YtffghofheeleeaaGreatDoorKJH
namespace Go.Proofs.YtffghofheeleeaaGreatDoor
open Go.Proofs.Tryz
open Go.RowKit
set_option maxHeartbeats 16000000
set_option maxRecDepth 100000
set_option linter.unusedVariables false
theorem checkKinds_limit (q:Option Addr) (n cap:Nat) (yr:Int) (w:World) (hn:n<1∨1≤n∧40<n) :
  Calls prog 52 #[.slice q n cap,.int .i64 yr] w fun e w'=>e=.returned (.iface 33 (.int .i64 4))∧But [] w w':=by
 have bw:But [] w w:=But.refl _ _
 rcases hn with h|⟨h1,h2⟩
 ·go_enter func52,ntmps52
  go_wp2
  go_ret
  exact⟨rfl,bw⟩
 ·have h3:¬ n<1:=by omega
  go_enter func52,ntmps52
  go_wp2
  go_ret
  exact⟨rfl,bw⟩
theorem checkKinds_all (q:Option Addr) (n cap:Nat) (ks:List Kd) (yr:Int) (w:World) (hv:kz w (.slice q n cap) ks) (hN:n=ks.length) (hn1:1≤n) (hn:n≤40) (ce:Int) (hce:ce=if ks.any (fun k=>decide (k.ch.num<0) || decide (k.sp.num<0)) then 1 else if mkR ks (fun _=>((1:Int):Rat)) n=((1:Int):Rat) then (if yr<1 then 2 else if 120<yr then 2 else 0) else 10) (lc:∀ k,k<n→Len (ze ks k).ch 1) (_lm:∀ k,k<n→Len (ze ks k).me 1) (_lp:∀ k,k<n→Len (ze ks k).sp 1) :
  Calls prog 52 #[.slice q n cap,.int .i64 yr] w fun e w'=>e=.returned (errV ce)∧But [] w w':=by
 have HV:=af hv
 have HN:=af hN
 have ME:=af (fun W (h:But [] w W)=>zbz q n cap ks (fun _=>((1:Int):Rat)) 1 114 W (hv.but h) hN hn (by omega) lc (fun k hk=>oo 1 (by decide)) enters_kOne (fun s1 x1 y1 p1 s2 x2 y2 p2 s3 x3 y3 p3 k W hk hok=>kOne_any s1 x1 y1 p1 s2 x2 y2 p2 s3 x3 y3 p3 _ W hok))
 obtain⟨SM,hSM⟩:∃ SM,SM=mkR ks (fun _=>((1:Int):Rat)) n:=⟨_,rfl⟩
 have lS:Len SM 200:=by
  rw[hSM]
  refine (zal ks (fun _=>((1:Int):Rat)) n 1 lc (fun k hk=>oo 1 (by decide)) n (Nat.le_refl _)).mono ?_
  omega
 rw[← hSM] at ME
 have HCE:Hid (ce=if ks.any (fun k=>decide (k.ch.num<0) || decide (k.sp.num<0)) then 1 else if SM=((1:Int):Rat) then (if yr<1 then 2 else if 120<yr then 2 else 0) else 10):=by
  show _=_
  rw[hce,hSM]
 clear hce hSM hv hN lc _lm _lp
 go_enter func52,ntmps52
 have h0:¬ n<1:=by omega
 have hn40:¬ n > 40:=by omega
 ·go_wp2
  go_loopw [18] (fun iv wr=>∃ k:Nat,k≤n∧iv=.int .i64 (k:Int)∧Hid ((∀ j,j<k→¬ (ze ks j).ch.num<0∧¬ (ze ks j).sp.num<0)∧But [] w wr)) (fun iv _=>n-(intOf iv).toNat)
  case atStart=>exact⟨0,Nat.zero_le _,rfl,fun j hj=>absurd hj (by omega),But.refl _ _⟩
  case round =>
   obtain⟨k,hk,rfl,HI⟩:=hrel
   rename World=>wr
   by_cases hlt:k<n
   ·have hkl:k<ks.length:=by have:=ae HN;omega
    have hkk:ks[k]? = some (ze ks k):=by
     unfold ze
     rw[List.getElem?_eq_getElem hkl];rfl
    obtain⟨b,off,s1,x1,y1,p1,s2,x2,y2,p2,s3,x3,y3,p3,rfl,kc,hok⟩:=((ae HV).but (ae HI).2).get k hlt _ hkk
    have r0:wr.cell? ⟨b,off+k*12,none⟩=some (.bool s1):=kc.1.1
    have r1:wr.cell? ⟨b,off+k*12+1,none⟩=some (.int .u64 x1):=kc.1.2.1
    have r2:wr.cell? ⟨b,off+k*12+2,none⟩=some (.int .u64 y1):=kc.1.2.2.1
    have r3:wr.cell? ⟨b,off+k*12+3,none⟩=some (.pointer p1):=kc.1.2.2.2
    have r4:wr.cell? ⟨b,off+k*12+4,none⟩=some (.bool s2):=kc.2.1.1
    have r5:wr.cell? ⟨b,off+k*12+5,none⟩=some (.int .u64 x2):=kc.2.1.2.1
    have r6:wr.cell? ⟨b,off+k*12+6,none⟩=some (.int .u64 y2):=kc.2.1.2.2.1
    have r7:wr.cell? ⟨b,off+k*12+7,none⟩=some (.pointer p2):=kc.2.1.2.2.2
    have r8:wr.cell? ⟨b,off+k*12+8,none⟩=some (.bool s3):=kc.2.2.1
    have r9:wr.cell? ⟨b,off+k*12+9,none⟩=some (.int .u64 x3):=kc.2.2.2.1
    have r10:wr.cell? ⟨b,off+k*12+10,none⟩=some (.int .u64 y3):=kc.2.2.2.2.1
    have r11:wr.cell? ⟨b,off+k*12+11,none⟩=some (.pointer p3):=kc.2.2.2.2.2
    have SC:=af (fun W=>jy _ (ze ks k).ch W (hok.1 W))
    have SP:=af (fun W=>jy _ (ze ks k).sp W (hok.2.2 W))
    have HB:=af ((ae HI).2.trans' ((But.refl _ _).alloc (.cells #[.bool s1,.int .u64 x1,.int .u64 y1,.pointer p1,.bool s2,.int .u64 x2,.int .u64 y2,.pointer p2,.bool s3,.int .u64 x3,.int .u64 y3,.pointer p3] 45)))
    have KB:Hid (K12 (wr.alloc (.cells #[.bool s1,.int .u64 x1,.int .u64 y1,.pointer p1,.bool s2,.int .u64 x2,.int .u64 y2,.pointer p2,.bool s3,.int .u64 x3,.int .u64 y3,.pointer p3] 45)) wr.heap.size 0 s1 x1 y1 p1 s2 x2 y2 p2 s3 x3 y3 p3):=⟨⟨by simp,by simp,by simp,by simp⟩,⟨by simp,by simp,by simp,by simp⟩,⟨by simp,by simp,by simp,by simp⟩⟩
    have hbad:(ze ks k).ch.num<0∨(ze ks k).sp.num<0→ce=1:=fun h=>by
     rw[ae HCE,if_pos (List.any_eq_true.2 ⟨_,kd_mem hkl,by
      rcases h with h | h
      ·rw[decide_eq_true h];rfl
      ·rw[decide_eq_true h,Bool.or_true]⟩)]
    have HBAD:=af hbad
    clear kc hok hkk hbad
    by_cases hc:(ze ks k).ch.num<0
    ·obtain rfl:=ae HBAD (.inl hc)
     rw[sign_low hc] at SC
     go_wp2_with fail
     refine (ae SC _).mono ?_
     rintro e w1 ⟨rfl,hb1⟩
     have B1:=af ((ae HB).trans' hb1)
     clear hb1 r0 r1 r2 r3 r4 r5 r6 r7 r8 r9 r10 r11
     go_wp2
     go_ret
     exact⟨rfl,ae B1⟩
    ·have hsc:=zgc hc
     obtain⟨sc,hsc2⟩:∃ sc,sc=(ze ks k).ch.num.sign:=⟨_,rfl⟩
     rw[← hsc2] at SC hsc
     clear hsc2
     go_wp2_with fail
     refine (ae SC _).mono ?_
     rintro e w1 ⟨rfl,hb1⟩
     have B1:=af ((ae HB).trans' hb1)
     have K1:=af ((ae KB).but hb1 (by simp))
     clear hb1 r0 r1 r2 r3 r4 r5 r6 r7 r8 r9 r10 r11 HB KB SC
     generalize wr.heap.size=g6 at *
     obtain⟨-,-,⟨k8,k9,k10,k11⟩⟩:=ae K1
     simp only[Nat.zero_add,Nat.reduceAdd] at k8 k9 k10 k11
     by_cases hp:(ze ks k).sp.num<0
     ·obtain rfl:=ae HBAD (.inr hp)
      rw[sign_low hp] at SP
      go_wp2_with fail
      refine (ae SP _).mono ?_
      rintro e w2 ⟨rfl,hb2⟩
      have B2:=af ((ae B1).trans' hb2)
      clear hb2
      go_wp2
      go_ret
      exact⟨rfl,ae B2⟩
     ·have hsp:=zgc hp
      obtain⟨sp,hsp2⟩:∃ sp,sp=(ze ks k).sp.num.sign:=⟨_,rfl⟩
      rw[← hsp2] at SP hsp
      clear hsp2
      go_wp2_with fail
      refine (ae SP _).mono ?_
      rintro e w2 ⟨rfl,hb2⟩
      have B2:=af ((ae B1).trans' hb2)
      have HC:=af hc
      have HP:=af hp
      clear hb2 B1 K1 k8 k9 k10 k11 hc hp
      go_wp2
      refine⟨⟨k+1,by omega,by go_num,fun j hj=>?_,ae B2⟩,by simp[intOf];omega⟩
      by_cases e:j=k
      ·subst e
       have h1:=ae HC
       have h2:=ae HP
       exact⟨by omega,by omega⟩
      ·have:=(ae HI).1 j (by omega)
       exact⟨by omega,by omega⟩
   ·obtain rfl:k=n:=by omega
    obtain⟨hall,hbw⟩:=ae HI
    have hno:ks.any (fun k=>decide (k.ch.num<0) || decide (k.sp.num<0))=false:=by
     rw[List.any_eq_false]
     intro z hz
     obtain⟨j,hj,rfl⟩:=List.mem_iff_getElem.1 hz
     have h:=hall j (by have:=ae HN;omega)
     have e:ze ks j=ks[j]:=by
      unfold ze
      rw[List.getElem?_eq_getElem hj];rfl
     rw[e] at h
     rw[decide_eq_false h.1,decide_eq_false h.2]
     decide
    have hce2:ce=if SM=((1:Int):Rat) then (if yr<1 then 2 else if 120<yr then 2 else 0) else 10:=by rw[ae HCE,hno];simp
    have HC2:=af hce2
    have HBW:=af hbw
    obtain⟨ws,wx,FW,CW⟩:=zfa 1 (by omega) (by omega)
    have HFW:=af FW
    have HCW:=af CW
    obtain⟨r,hr⟩:∃ r,r=zem (SM.num*((((1:Int):Rat)).den:Int)) ((((1:Int):Rat)).num*(SM.den:Int)):=⟨_,rfl⟩
    have h3:=(cmpZ_tells SM ((1:Int):Rat) r hr).2.2
    have H3:=af h3
    have HR:=af hr
    clear hall hbw hno hce2 HI FW CW h3 hr
    go_wp2_with fail
    refine (ae ME _ (ae HBW)).mono ?_
    rintro e w1 ⟨v1,rfl,hf1,hb1⟩
    have B1:=af ((ae HBW).trans' hb1)
    obtain⟨x1,y1,p1,rfl,-⟩:=id hf1.agg
    generalize decide (SM.num<0)=s1 at *
    have F1:=af hf1
    clear hb1 hf1 ME
    go_wp2_with fail
    refine (ae HCW _).mono ?_
    rintro e w2 ⟨rfl,hb2⟩
    have B2:=af ((ae B1).trans' hb2)
    have CM:=af (fracCmp_any _ _ SM ((1:Int):Rat) w2 ((ae F1).but hb2) (ae HFW w2) (lS.mono (by omega)) ((oo 1 (by decide)).mono (by omega)) r (ae HR))
    clear hb2 B1 F1 HCW
    go_wp2_with fail
    refine (ae CM).mono ?_
    rintro e w3 ⟨rfl,hb3⟩
    have B3:=af ((ae B2).trans' hb3)
    clear hb3 B2 CM
    by_cases hr0:r=0
    ·have e0:ce=if yr<1 then 2 else if 120<yr then 2 else 0:=by rw[ae HC2,if_pos ((ae H3).1 hr0)]
     have E0:=af e0
     subst hr0
     clear e0 HCE HC2
     by_cases hy1:yr<1
     ·obtain rfl:ce=2:=by rw[ae E0,if_pos hy1]
      go_wp2
      go_ret
      exact⟨rfl,ae B3⟩
     ·by_cases hy2:120<yr
      ·obtain rfl:ce=2:=by rw[ae E0,if_neg hy1,if_pos hy2]
       go_wp2
       go_ret
       exact⟨rfl,ae B3⟩
      ·obtain rfl:ce=0:=by rw[ae E0,if_neg hy1,if_neg hy2]
       have hy3:¬ yr > 120:=by omega
       go_wp2
       go_ret
       exact⟨rfl,ae B3⟩
    ·have e0:ce=10:=by rw[ae HC2,if_neg (fun h=>hr0 ((ae H3).2 h))]
     subst e0
     go_wp2
     go_ret
     exact⟨rfl,ae B3⟩
theorem amissTop_bad (q:Option Addr) (n cap:Nat) (yr:Int) (w:World) (ce:Int) (s4:Bool) (x4 y4:Int) (p4:Option Addr) (s5:Bool) (x5 y5:Int) (p5:Option Addr) (hk:ce≠0) (CK0:∀ W,But [] w W→Calls prog 52 #[.slice q n cap,.int .i64 yr] W fun e w'=>e=.returned (errV ce)∧But [] W w') :
  Calls prog 15 #[.slice q n cap,.int .i64 yr,.agg #[.bool s4,.int .u64 x4,.int .u64 y4,.pointer p4,.bool s5,.int .u64 x5,.int .u64 y5,.pointer p5]] w fun e w'=>e=.returned (.tuple #[.agg #[.bool false,.int .u64 0,.int .u64 0,.pointer none],.iface 33 (.int .i64 ce)])∧But [] w w':=by
 have CK:=af CK0
 clear CK0
 obtain⟨A0,hA0⟩:∃ A0,A0=w.alloc (.cells #[.bool s4,.int .u64 x4,.int .u64 y4,.pointer p4,.bool s5,.int .u64 x5,.int .u64 y5,.pointer p5] 50):=⟨_,rfl⟩
 obtain⟨W,hW⟩:∃ W,W=A0.alloc (.cells #[.bool false,.int .u64 0,.int .u64 0,.pointer none] 27):=⟨_,rfl⟩
 have sA0:A0.heap.size=w.heap.size+1:=by rw[hA0];simp
 have bA0:But [] w A0:=by rw[hA0];exact (But.refl _ _).alloc _
 have bW:But [] A0 W:=by rw[hW];exact (But.refl _ _).alloc _
 have x6:az W (w.heap.size+1) 0:=by
  rw[hW,← sA0]
  exact az.new A0 false 0 0 none 0 27 (xk _)
 have X6:=af x6
 have BW:=af (bA0.trans' bW)
 clear x6 bA0 bW
 go_enter func15,ntmps15
 go_wp2_with fail
 rw[← hA0,← hW]
 refine (ae CK _ (ae BW)).mono ?_
 rintro e w1 ⟨rfl,hb1⟩
 have B1:=af ((ae BW).trans' hb1)
 have X61:=af ((ae X6).but hb1)
 clear hb1 BW X6 CK hA0 hW sA0
 unfold errV
 rw[if_neg hk]
 generalize hg6:w.heap.size+1=g6 at *
 obtain⟨⟨t2,a2,b2,q2,⟨c0,c1,c2,c3⟩,-⟩,z2⟩:=ae X61
 have P2:Hid (P4 w1 g6 t2 a2 b2 q2):=⟨c0,c1,c2,c3⟩
 go_wp2
 have hP:=aw w1 g6 false 0 0 none
 obtain⟨m0,m1,m2,m3⟩:=wu w1 g6 false 0 0 none (ae P2)
 have hF:But [] w (jk w1 g6 false 0 0 none):=(ae B1).trans hP (fun x hx=>by simp at hx;subst hx;exact .inr (by omega))
 change bodyPost _ _ _ _ _ (jk w1 g6 false 0 0 none)
 generalize jk w1 g6 false 0 0 none=F at *
 exact bodyPost_ret (v:=.tuple #[.agg #[.bool false,.int .u64 0,.int .u64 0,.pointer none],.iface 33 (.int .i64 ce)]) (by simp[results,results15,go_sem,m0,m1,m2,m3]) rfl ⟨rfl,hF⟩
theorem linear_bad (q:Option Addr) (n cap:Nat) (yr:Int) (w:World) (ce:Int) (hk:ce≠0) (CK0:∀ W,But [] w W→Calls prog 52 #[.slice q n cap,.int .i64 yr] W fun e w'=>e=.returned (errV ce)∧But [] W w') :
  Calls prog 14 #[.slice q n cap,.int .i64 yr] w fun e w'=>e=.returned (.tuple #[.agg #[.bool false,.int .u64 0,.int .u64 0,.pointer none,.bool false,.int .u64 0,.int .u64 0,.pointer none],.iface 33 (.int .i64 ce)])∧But [] w w':=by
 have CK:=af CK0
 clear CK0
 have x4:dm (w.alloc (.cells #[.bool false,.int .u64 0,.int .u64 0,.pointer none,.bool false,.int .u64 0,.int .u64 0,.pointer none] 50)) w.heap.size [.bool false,.int .u64 0,.int .u64 0,.pointer none,.bool false,.int .u64 0,.int .u64 0,.pointer none]:=dm.new w _ _
 have bA:But [] w (w.alloc (.cells #[.bool false,.int .u64 0,.int .u64 0,.pointer none,.bool false,.int .u64 0,.int .u64 0,.pointer none] 50)):=(But.refl _ _).alloc _
 have X4:=af x4
 have BA:=af bA
 have Q2:Hid (w.heap.size≤w.heap.size):=Nat.le_refl _
 clear x4 bA
 go_enter func14,ntmps14
 go_wp2_with fail
 refine (ae CK _ (ae BA)).mono ?_
 rintro e w1 ⟨rfl,hb1⟩
 have B1:=af ((ae BA).trans' hb1)
 have X41:=af ((ae X4).but hb1 (by simp) (by simp))
 clear hb1 X4 BA CK
 unfold errV
 rw[if_neg hk]
 generalize hg4:w.heap.size=g4 at *
 obtain⟨u0,c0⟩:=(ae X41).some 0 (by simp)
 obtain⟨u1,c1⟩:=(ae X41).some 1 (by simp)
 obtain⟨u2,c2⟩:=(ae X41).some 2 (by simp)
 obtain⟨u3,c3⟩:=(ae X41).some 3 (by simp)
 obtain⟨u4,c4⟩:=(ae X41).some 4 (by simp)
 obtain⟨u5,c5⟩:=(ae X41).some 5 (by simp)
 obtain⟨u6,c6⟩:=(ae X41).some 6 (by simp)
 obtain⟨u7,c7⟩:=(ae X41).some 7 (by simp)
 have fz:=(ae X41).loose
 go_wp2
 have hS:=bk w1 g4 [.bool false,.int .u64 0,.int .u64 0,.pointer none,.bool false,.int .u64 0,.int .u64 0,.pointer none] 0
 have P:=(ae X41).put (us:=[.bool false,.int .u64 0,.int .u64 0,.pointer none,.bool false,.int .u64 0,.int .u64 0,.pointer none]) rfl
 have m0:=P.cells 0 _ rfl
 have m1:=P.cells 1 _ rfl
 have m2:=P.cells 2 _ rfl
 have m3:=P.cells 3 _ rfl
 have m4:=P.cells 4 _ rfl
 have m5:=P.cells 5 _ rfl
 have m6:=P.cells 6 _ rfl
 have m7:=P.cells 7 _ rfl
 have hF:But [] w (w1.setCells g4 0 [.bool false,.int .u64 0,.int .u64 0,.pointer none,.bool false,.int .u64 0,.int .u64 0,.pointer none]):=(ae B1).trans hS (fun x hx=>by simp at hx;subst hx;exact .inr (by omega))
 change bodyPost _ _ _ _ _ (w1.setCells g4 0 [.bool false,.int .u64 0,.int .u64 0,.pointer none,.bool false,.int .u64 0,.int .u64 0,.pointer none])
 generalize w1.setCells g4 0 [.bool false,.int .u64 0,.int .u64 0,.pointer none,.bool false,.int .u64 0,.int .u64 0,.pointer none]=F at *
 exact bodyPost_ret (v:=.tuple #[.agg #[.bool false,.int .u64 0,.int .u64 0,.pointer none,.bool false,.int .u64 0,.int .u64 0,.pointer none],.iface 33 (.int .i64 ce)]) (by simp[results,results14,go_sem,m0,m1,m2,m3,m4,m5,m6,m7]) rfl ⟨rfl,hF⟩
end Go.Proofs.YtffghofheeleeaaGreatDoor
