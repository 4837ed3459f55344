/- The nearest whole number of a ratio, of  -/
import Derived.Test.YteipfplbcbaheaaGreatDoorIHN
import Derived.Test.YteipfplbcbaheaaGreatDoorIHS
namespace Go.Proofs.YteipfplbcbaheaaGreatDoor
open Go.RowKit
set_option maxHeartbeats 16000000
set_option maxRecDepth 100000
theorem refNearest_any (ab:Nat) (f:Rat) (n:Nat) (w:World) (ha:RatIs w ab f) (lf:LenU f n) (hn:n≤1000) :
  Calls Tryz.prog 34 #[.pointer (some ⟨ab,0,none⟩)] w fun e w'=>∃ zb,e=.returned (.pointer (some ⟨zb,0,none⟩))∧But [] w w'∧IntAt w' zb 0 (nearI f):=by
 have lfl:(wd 4294967296 (fl f).natAbs).length≤n:=by
  refine Nat.le_trans (lenU_mono ?_) lf.1
  unfold fl
  have hd:0<f.den:=Nat.pos_of_ne_zero f.den_nz
  have h1:=Int.mul_ediv_add_emod f.num (f.den:Int)
  have h2:=Int.emod_nonneg f.num (show (f.den:Int)≠0 by omega)
  have h3:=Int.emod_lt_of_pos f.num (show (0:Int)<(f.den:Int) by omega)
  generalize f.num/(f.den:Int)=z at *
  generalize f.num%(f.den:Int)=r at *
  generalize f.num=p at *
  rcases Int.lt_or_le z 0 with h | h
  ·have h5:(f.den:Int)*(z+1)≤z+1:=by
    have:=Int.mul_le_mul_of_nonpos_right (show (1:Int)≤(f.den:Int) by omega) (show z+1≤0 by omega)
    omega
   rw [Int.mul_add,Int.mul_one] at h5
   omega
  ·have h4:z≤(f.den:Int)*z:=by
    have:=Int.mul_le_mul_of_nonneg_right (show (1:Int)≤(f.den:Int) by omega) h
    omega
   omega
 obtain ⟨i1,i2⟩:=int_num (fl f)
 have lF:LenU ((fl f:Int):Rat) (n+1):=⟨by rw [i1];omega,by rw [i2];exact Nat.le_trans (wd_length_le (B:=4294967296) (by omega) 1 1 (by omega)) (by omega)⟩
 have lD1:=lf.sub lF
 have lD2:=lD1.sub lenU_half
 have UP:=hide (up_of f)
 obtain ⟨d1,hd1⟩:∃ d1,d1=f-((fl f:Int):Rat):=⟨_,rfl⟩
 obtain ⟨d,hd⟩:∃ d,d=d1-halfR:=⟨_,rfl⟩
 rw [← hd1] at lD1 lD2 UP
 rw [← hd] at lD2 UP
 have FL:=hide (refFloor_any ab f w ha (lf.mono (by omega)))
 have SI:=hide (fun (W:World) (g0 nb:Nat) (s:Slot W g0 0∧Slot W g0 2) (h:IntAt W nb 0 (fl f))=>ratSetIntU_any g0 nb 0 (fl f) W s.1 s.2 h (by omega))
 have S1:Hid (∀ W xb,But [] w W→RatAt W xb (fl f) 1→Calls Tryz.prog 17 #[.pointer (some ⟨ab,0,none⟩),.pointer (some ⟨xb,0,none⟩)] W fun e w'=>∃ zb,e=.returned (.pointer (some ⟨zb,0,none⟩))∧But [] W w'∧RatIs w' zb d1∧W.heap.size≤zb):=fun W xb hb h=>by
  rw [hd1]
  exact refSub_any ab xb f _ W (ha.but hb) (by unfold RatIs;rw [i1,i2];exact h) (lf.mono (by omega)) (lF.mono (by omega))
 have NR:=hide (fun W=>newRat_any 1 2 halfR W (by omega) (by omega) (by omega) (by omega) (by omega) (by show _=_;rw [halfR_parts.1,halfR_parts.2];rfl))
 have S2:Hid (∀ W xb yb,RatIs W xb d1→RatIs W yb halfR→Calls Tryz.prog 17 #[.pointer (some ⟨xb,0,none⟩),.pointer (some ⟨yb,0,none⟩)] W fun e w'=>∃ zb,e=.returned (.pointer (some ⟨zb,0,none⟩))∧But [] W w'∧RatIs w' zb d∧W.heap.size≤zb):=fun W xb yb h1 h2=>by
  rw [hd]
  exact refSub_any xb yb d1 halfR W h1 h2 (lD1.mono (by omega)) (lenU_half.mono (by omega))
 obtain ⟨s,hs⟩:∃ s,s=d.num.sign:=⟨_,rfl⟩
 have SG:=hide (fun W b (h:RatIs W b d)=>ratSign_any b d.num (d.den:Int) W h s hs (by have:=lD2.1;omega))
 have BT:=hide (fun W b (h:IntAt W b 0 (fl f))=>intBit0_any b 0 (fl f) W h (by omega))
 have lp1:(wd 4294967296 (fl f+1).natAbs).length≤n+2:=lenU_int_add (fl f) 1 (n+1) (by omega) (Nat.le_trans (wd_length_le (B:=4294967296) (by omega) 1 1 (by omega)) (by omega))
 have one:(wd 4294967296 (1:Int).natAbs).length<8388608:=Nat.lt_of_le_of_lt (wd_length_le (B:=4294967296) (by omega) 1 1 (by omega)) (by omega)
 have AD:Hid (∀ (W:World) (g0 nb kb:Nat),Slot W g0 0→IntAt W nb 0 (fl f)→IntAt W kb 0 1→Calls Tryz.prog 93 #[.pointer (some ⟨g0,0,none⟩),.pointer (some ⟨nb,0,none⟩),.pointer (some ⟨kb,0,none⟩)] W fun e w'=>e=.returned (.pointer (some ⟨g0,0,none⟩))∧But [g0] W w'∧IntAt w' g0 0 (fl f+1)):=fun W g0 nb kb hs h1 h2=>(intAddU_all g0 0 nb 0 kb 0 (fl f) 1 (fl f+1) W hs h1 h2 (by omega) one (by omega) rfl).mono (fun e w' h=>by
  obtain ⟨h1,w1,v,h2,h3,rfl⟩:=h
  exact ⟨h1,(But.of_nil h2).trans (put_but ..) (by simp),put_int (hs.but h2 (by simp)) _ _ h3⟩)
 have sc:=sign_cases d.num
 rw [← hs] at sc
 clear lfl i1 i2 lF lD1 lD2 hd1 hd hs lp1 one ha lf
 generalize hF:fl f=F at *
 have HF:=hide hF
 clear hF
 go_enter Tryz.func34,Tryz.ntmps34
 go_wp2_with fail
 refine (unhide FL).mono ?_
 rintro e w1 ⟨nb,rfl,B1,I1,-⟩
 obtain ⟨W0,hW0⟩:∃ W0,W0=w1.alloc (.cells #[.bool false,.slice none 0 0,.bool false,.slice none 0 0] 93):=⟨_,rfl⟩
 obtain ⟨g0,hg0⟩:∃ g0,g0=w1.heap.size:=⟨_,rfl⟩
 have s0:=ratSlots w1 93
 rw [← hW0,← hg0] at s0
 have bw:But [] w1 W0:=by rw [hW0];exact (But.refl _ _).alloc _
 have SI1:=hide (unhide SI W0 g0 nb s0 (I1.but bw))
 have K1:=hide (And.intro B1 (And.intro I1 (And.intro bw hg0)))
 have HW0:=hide hW0
 clear hW0 s0 bw B1 I1 SI FL
 go_wp2_with fail
 rw [← unhide HW0]
 try rw [← hg0]
 clear hg0
 refine (unhide SI1).mono ?_
 rintro e w2 ⟨rfl,B2,R2⟩
 have K2:Hid (But [] w1 w2):=(unhide K1).2.2.1.trans B2 (fun x hx=>by have:=(unhide K1).2.2.2;simp at hx;omega)
 have S11:=hide (unhide S1 w2 g0 ((unhide K1).1.trans' (unhide K2)) R2)
 clear B2 R2 SI1 S1 HW0
 go_wp2_with fail
 refine (unhide S11).mono ?_
 rintro e w3 ⟨sb,rfl,B3,R3,-⟩
 have K3:Hid (But [] w1 w3∧RatIs w3 sb d1):=⟨(unhide K2).trans' B3,R3⟩
 clear B3 R3 S11 K2
 go_wp2_with fail
 refine (unhide NR _).mono ?_
 rintro e w4 ⟨hb,rfl,B4,R4,-⟩
 have S21:=hide (unhide S2 w4 sb hb ((unhide K3).2.but B4) R4)
 have K4:Hid (But [] w1 w4):=(unhide K3).1.trans' B4
 clear B4 R4 NR S2 K3
 go_wp2_with fail
 refine (unhide S21).mono ?_
 rintro e w5 ⟨db,rfl,B5,R5,-⟩
 have K5:Hid (But [] w w5∧IntAt w5 nb 0 F):=⟨((unhide K1).1.trans' (unhide K4)).trans' B5,(unhide K1).2.1.but ((unhide K4).trans' B5)⟩
 have SG1:=hide (unhide SG w5 db R5)
 clear B5 R5 S21 K4 SG
 go_wp2_with fail
 refine (unhide SG1).mono ?_
 rintro e w6 ⟨rfl,hw⟩
 obtain rfl:=hw.symm
 clear hw
 rcases sc with ⟨h1,h2⟩ | ⟨h1,h2⟩ | ⟨h1,h2⟩
 ·subst h2
  have HN:Hid (nearI f=F+1):=by
   show _=_
   unfold nearI
   rw [unhide UP,decide_eq_true h1,Bool.true_or,if_pos rfl,unhide HF]
  clear h1 UP BT SG1
  obtain ⟨W7,hW7⟩:∃ W7,W7=w5.alloc (.cells #[.bool false,.slice none 0 0] 91):=⟨_,rfl⟩
  obtain ⟨g1,hg1⟩:∃ g1,g1=w5.heap.size:=⟨_,rfl⟩
  have s7:=slot_new w5 91
  rw [← hW7,← hg1] at s7
  have b7:But [] w5 W7:=by rw [hW7];exact (But.refl _ _).alloc _
  have K7:=hide (And.intro s7 (And.intro b7 hg1))
  have HW7:=hide hW7
  clear hW7 s7 b7
  go_wp2_with fail
  rw [← unhide HW7]
  try rw [← hg1]
  clear hg1
  refine (newInt_any 1 _ (by omega) (by omega)).mono ?_
  rintro e w8 ⟨rfl,B8,I8,-⟩
  obtain ⟨kb,hkb⟩:∃ kb,kb=W7.heap.size:=⟨_,rfl⟩
  rw [← hkb]
  rw [← hkb] at I8
  have b68:=(unhide K7).2.1.trans' B8
  have AD1:=hide (unhide AD w8 g1 nb kb ((unhide K7).1.but B8 (by simp)) ((unhide K5).2.but b68) I8)
  have K8:=hide b68
  clear B8 I8 hkb b68 AD
  go_wp2_with fail
  refine (unhide AD1).mono ?_
  rintro e w9 ⟨rfl,B9,I9⟩
  have F9:Hid (But [] w w9∧IntAt w9 g1 0 (nearI f)):=⟨((unhide K5).1.trans' (unhide K8)).trans B9 (fun x hx=>by
   have e1:=(unhide K7).2.2
   have e2:=(unhide K5).1.size
   simp at hx
   right
   omega),by rw [unhide HN];exact I9⟩
  clear B9 I9 AD1 K8 K7
  go_wp2
  go_ret
  exact ⟨g1,rfl,(unhide F9).1,(unhide F9).2⟩
 ·subst h2
  by_cases ho:F.natAbs%2=1
  ·have HN:Hid (nearI f=F+1):=by
    show _=_
    unfold nearI
    rw [unhide UP,decide_eq_false (by omega),decide_eq_true h1,decide_eq_true ho,Bool.false_or,Bool.true_and,if_pos rfl,unhide HF]
   have BT1:=hide (unhide BT w5 nb (unhide K5).2)
   rw [ho] at BT1
   clear h1 UP BT ho
   go_wp2_with fail
   refine (unhide SG1).mono ?_
   rintro e w7 ⟨rfl,hw⟩
   obtain rfl:=hw.symm
   clear hw
   go_wp2_with fail
   refine (unhide BT1).mono ?_
   rintro e w7 ⟨rfl,B7⟩
   replace K5:Hid (But [] w w7∧IntAt w7 nb 0 F):=⟨(unhide K5).1.trans' B7,(unhide K5).2.but B7⟩
   clear B7 BT1 SG1
   obtain ⟨W7,hW7⟩:∃ W7,W7=w7.alloc (.cells #[.bool false,.slice none 0 0] 91):=⟨_,rfl⟩
   obtain ⟨g1,hg1⟩:∃ g1,g1=w7.heap.size:=⟨_,rfl⟩
   have s7:=slot_new w7 91
   rw [← hW7,← hg1] at s7
   have b7:But [] w7 W7:=by rw [hW7];exact (But.refl _ _).alloc _
   have K7:=hide (And.intro s7 (And.intro b7 hg1))
   have HW7:=hide hW7
   clear hW7 s7 b7
   go_wp2_with fail
   rw [← unhide HW7]
   try rw [← hg1]
   clear hg1
   refine (newInt_any 1 _ (by omega) (by omega)).mono ?_
   rintro e w8 ⟨rfl,B8,I8,-⟩
   obtain ⟨kb,hkb⟩:∃ kb,kb=W7.heap.size:=⟨_,rfl⟩
   rw [← hkb]
   rw [← hkb] at I8
   have b68:=(unhide K7).2.1.trans' B8
   have AD1:=hide (unhide AD w8 g1 nb kb ((unhide K7).1.but B8 (by simp)) ((unhide K5).2.but b68) I8)
   have K8:=hide b68
   clear B8 I8 hkb b68 AD
   go_wp2_with fail
   refine (unhide AD1).mono ?_
   rintro e w9 ⟨rfl,B9,I9⟩
   have F9:Hid (But [] w w9∧IntAt w9 g1 0 (nearI f)):=⟨((unhide K5).1.trans' (unhide K8)).trans B9 (fun x hx=>by
    have e1:=(unhide K7).2.2
    have e2:=(unhide K5).1.size
    simp at hx
    right
    omega),by rw [unhide HN];exact I9⟩
   clear B9 I9 AD1 K8 K7
   go_wp2
   go_ret
   exact ⟨g1,rfl,(unhide F9).1,(unhide F9).2⟩
  ·have hy:F.natAbs%2=0:=by omega
   have HN:Hid (nearI f=F):=by
    show _=_
    unfold nearI
    rw [unhide UP,decide_eq_false (by omega),decide_eq_true h1,decide_eq_false ho,Bool.false_or,Bool.true_and,if_neg (by simp),unhide HF]
   have BT1:=hide (unhide BT w5 nb (unhide K5).2)
   rw [hy] at BT1
   clear h1 UP BT ho hy AD
   go_wp2_with fail
   refine (unhide SG1).mono ?_
   rintro e w7 ⟨rfl,hw⟩
   obtain rfl:=hw.symm
   clear hw
   go_wp2_with fail
   refine (unhide BT1).mono ?_
   rintro e w7 ⟨rfl,B7⟩
   have F9:Hid (But [] w w7∧IntAt w7 nb 0 (nearI f)):=⟨(unhide K5).1.trans' B7,by rw [unhide HN];exact (unhide K5).2.but B7⟩
   clear B7 BT1 SG1 K5
   go_wp2
   go_ret
   exact ⟨nb,rfl,(unhide F9).1,(unhide F9).2⟩
 ·subst h2
  have HN:Hid (nearI f=F):=by
   show _=_
   unfold nearI
   rw [unhide UP,decide_eq_false (by omega),decide_eq_false (by omega),Bool.false_or,Bool.false_and,if_neg (by simp),unhide HF]
  have F9:Hid (But [] w w5∧IntAt w5 nb 0 (nearI f)):=⟨(unhide K5).1,by rw [unhide HN];exact (unhide K5).2⟩
  clear h1 UP BT AD K5
  go_wp2_with fail
  refine (unhide SG1).mono ?_
  rintro e w7 ⟨rfl,hw⟩
  obtain rfl:=hw.symm
  clear hw
  go_wp2
  go_ret
  exact ⟨nb,rfl,(unhide F9).1,(unhide F9).2⟩
end Go.Proofs.YteipfplbcbaheaaGreatDoor

namespace Go.Proofs.YteipfplbcbaheaaGreatDoor
open Go.RowKit
set_option maxHeartbeats 16000000
set_option maxRecDepth 100000
theorem rpow_ten (k:Nat):rpow ((10:Int):Rat) k=(((10^k:Nat):Int):Rat):=by
 obtain ⟨h1,h2⟩:=rpow_parts ((10:Int):Rat) k
 obtain ⟨i1,i2⟩:=int_num 10
 obtain ⟨j1,j2⟩:=int_num ((10^k:Nat):Int)
 rw [i1] at h1
 rw [i2,Nat.one_pow] at h2
 refine Rat.ext ?_ ?_
 ·rw [h1,j1];simp
 ·rw [h2,j2]
theorem decI_abs (n:Nat):decI (n:Int)=Lib.decDigits n:=by rw [decI,if_neg (by omega),Int.natAbs_natCast]
theorem ba_one (b:UInt8) (t:ByteArray):(⟨#[b]⟩++t).data.toList=b::t.data.toList:=by rw [ByteArray.data_append];simp
theorem refDecimal_any (ab:Nat) (f:Rat) (k:Nat) (N:Int) (w:World) (ha:RatIs w ab f) (lf:LenU f 2) (hk:k≤18) (hN:N=nearI (f*(((10^k:Nat):Int):Rat))) (hb:N.natAbs<10^42) :
  Calls Tryz.prog 38 #[.pointer (some ⟨ab,0,none⟩),.int .i64 (k:Int)] w fun e w'=>∃ t,e=.returned (.string t)∧DecTxt N.natAbs k (decide (N<0)) t∧But [] w w':=by
 have l10:LenU ((10:Int):Rat) 2:=⟨by rw [(int_num 10).1];exact len_le_two _ (by decide),by rw [(int_num 10).2];exact len_le_two _ (by decide)⟩
 have hkp:10^k≤1000000000000000000:=Nat.pow_le_pow_right (by omega) hk (n:=10)
 obtain ⟨P,hP⟩:∃ P,P=10^k:=⟨_,rfl⟩
 have eP:=rpow_ten k
 rw [← hP] at hkp hN eP
 have lP:LenU ((P:Int):Rat) 2:=⟨by rw [(int_num (P:Int)).1];exact len_le_two _ (by omega),by rw [(int_num (P:Int)).2];exact len_le_two _ (by decide)⟩
 have I10:=hide (refInt_any 10 w (by omega) (by omega))
 have PW:Hid (∀ W ib,RatAt W ib 10 1→Calls Tryz.prog 24 #[.pointer (some ⟨ib,0,none⟩),.int .i64 (k:Int)] W fun e w'=>∃ zb,e=.returned (.pointer (some ⟨zb,0,none⟩))∧But [] W w'∧RatIs w' zb ((P:Int):Rat)):=fun W ib h=>by
  rw [← eP]
  exact refPower_any ib _ k W (by unfold RatIs;rw [(int_num 10).1,(int_num 10).2];exact h) l10 (by omega)
 have MU:=hide (fun W pb (hb:But [] w W) (h:RatIs W pb ((P:Int):Rat))=>refMul_any ab pb f _ W (ha.but hb) h (lf.mono (by omega)) (lP.mono (by omega)))
 have lM:=lf.mul lP
 have NE:Hid (∀ W mb,RatIs W mb (f*((P:Int):Rat))→Calls Tryz.prog 34 #[.pointer (some ⟨mb,0,none⟩)] W fun e w'=>∃ zb,e=.returned (.pointer (some ⟨zb,0,none⟩))∧But [] W w'∧IntAt w' zb 0 N):=fun W mb h=>by
  rw [hN]
  exact refNearest_any mb _ _ W h lM (by omega)
 have lN:(wd 4294967296 N.natAbs).length≤42:=wd_length_le (by omega) _ 42 (Nat.lt_of_lt_of_le hb (Nat.pow_le_pow_left (by omega) 42))
 have AB:=hide (fun (W:World) (g nb:Nat) (s:Slot W g 0) (h:IntAt W nb 0 N)=>intAbsU_any g 0 nb 0 N W s h (by omega))
 obtain ⟨n,hn⟩:∃ n,n=N.natAbs:=⟨_,rfl⟩
 obtain ⟨dt,hdt⟩:∃ dt:ByteArray,dt=⟨(Lib.decDigits n).toArray⟩:=⟨_,rfl⟩
 have ST:=hide (fun (W:World) (g:Nat) (h:IntAt W g 0 (n:Int))=>intString_any g 0 (n:Int) W h (by rw [Int.natAbs_natCast,hn];omega) (by rw [Int.natAbs_natCast,hn];have:=digU_len N.natAbs 42 lN;omega) dt (by show _=_;rw [hdt,decI_abs]))
 obtain ⟨sn,hsn⟩:∃ sn,sn=N.sign:=⟨_,rfl⟩
 have SG:=hide (fun (W:World) (nb:Nat) (h:IntAt W nb 0 N)=>intSign_any nb 0 N W h sn hsn (by omega))
 have hdl:dt.data.toList=Lib.decDigits n:=by rw [hdt]
 have hds:dt.size=(Lib.decDigits n).length:=by rw [← hdl];simp
 have hd1:=(dec_digits n).2.2
 have hd2:=dec_upto n 42 (by omega) (by rw [hn];exact hb)
 have sc:=sign_cases N
 rw [← hsn] at sc
 have HSN:Hid (n=N.natAbs):=hn
 have HDL:=hide hdl
 have HDS:=hide hds
 rw [← hn]
 clear hn hdt hdl hsn l10 eP lP lM hP hN hb ha lf lN
 generalize hL:(Lib.decDigits n).length=L at *
 have HL:=hide hL
 clear hL
 go_enter Tryz.func38,Tryz.ntmps38
 go_wp2_with fail
 refine (unhide I10).mono ?_
 rintro e w1 ⟨ib,rfl,B1,R1⟩
 have PW1:=hide (unhide PW w1 ib R1)
 have K1:=hide B1
 clear B1 R1 PW I10
 go_wp2_with fail
 refine (unhide PW1).mono ?_
 rintro e w2 ⟨pb,rfl,B2,R2⟩
 have K2:Hid (But [] w w2):=(unhide K1).trans' B2
 have MU1:=hide (unhide MU w2 pb (unhide K2) R2)
 clear B2 R2 PW1 MU K1
 go_wp2_with fail
 refine (unhide MU1).mono ?_
 rintro e w3 ⟨mb,rfl,B3,R3,-⟩
 have NE1:=hide (unhide NE w3 mb R3)
 have K3:Hid (But [] w w3):=(unhide K2).trans' B3
 clear B3 R3 MU1 NE K2
 go_wp2_with fail
 refine (unhide NE1).mono ?_
 rintro e w4 ⟨nb,rfl,B4,I4⟩
 have K4:Hid (But [] w w4∧IntAt w4 nb 0 N):=⟨(unhide K3).trans' B4,I4⟩
 obtain ⟨W5,hW5⟩:∃ W5,W5=w4.alloc (.cells #[.bool false,.slice none 0 0] 91):=⟨_,rfl⟩
 obtain ⟨g,hg⟩:∃ g,g=w4.heap.size:=⟨_,rfl⟩
 have s5:=slot_new w4 91
 rw [← hW5,← hg] at s5
 have b5:But [] w4 W5:=by rw [hW5];exact (But.refl _ _).alloc _
 have AB1:=hide (unhide AB W5 g nb s5 (I4.but b5))
 have K5:=hide (And.intro s5 (And.intro b5 hg))
 have HW5:=hide hW5
 clear B4 I4 NE1 K3 hW5 s5 b5 AB
 go_wp2_with fail
 rw [← unhide HW5]
 try rw [← hg]
 clear hg
 refine (unhide AB1).mono ?_
 rintro e w7 ⟨rfl,w6,v6,B6,V6,hw7⟩
 have F7:Hid (But [] w w7∧IntAt w7 nb 0 N∧IntAt w7 g 0 (n:Int)):=by
  obtain ⟨s5,b5,hg⟩:=unhide K5
  have b46:=b5.trans' B6
  have hb7:But [] w4 w7:=by rw [hw7];exact b46.trans (put_but ..) (by simp;omega)
  refine ⟨(unhide K4).1.trans' hb7,(unhide K4).2.but hb7,?_⟩
  rw [hw7]
  have hI:=put_int (s5.but B6 (by simp)) v6 (n:Int) (by rw [Int.natAbs_natCast,unhide HSN];exact V6)
  rw [decide_eq_false (show ¬ (n:Int)<0 by omega)] at hI
  exact hI
 have ST1:=hide (unhide ST w7 g (unhide F7).2.2)
 clear B6 V6 hw7 AB1 K4 K5 HW5 ST
 go_wp2_with fail
 refine (unhide ST1).mono ?_
 rintro e w8 ⟨rfl,B8⟩
 have F8:Hid (But [] w w8∧IntAt w8 nb 0 N):=⟨(unhide F7).1.trans' B8,(unhide F7).2.1.but B8⟩
 clear B8 ST1 F7
 go_wp2
 go_loopw [6] (fun s6 wr=>∃ (j z:Nat) (dd:ByteArray),s6=.string dd∧dd.size=z∧z≤100∧wr=w8∧Hid (dd.data.toList=List.replicate j 48++Lib.decDigits n∧z=j+L∧(j=0∨j+L≤k+1))) (fun s6 _=>match s6 with | .string dd=>k+1-dd.size | _=>0)
 case atStart=>exact ⟨0,L,dt,rfl,unhide HDS,by omega,rfl,by rw [unhide HDL];rfl,by omega,.inl rfl⟩
 case round =>
  obtain ⟨j,z,dd,rfl,hz,hz1,rfl,HI⟩:=hrel
  by_cases hlt:z≤k
  ·go_wp2
   have hsz:(⟨#[48]⟩++dd:ByteArray).size=z+1:=by rw [ByteArray.size_append,hz];rw [Nat.add_comm];rfl
   refine ⟨⟨j+1,z+1,⟨#[48]⟩++dd,rfl,hsz,by omega,by first | rfl | trivial,?_,?_,?_⟩,?_⟩
   ·rw [ba_one,(unhide HI).1];rfl
   ·have:=(unhide HI).2.1;omega
   ·have:=(unhide HI).2.1;omega
   ·simp only [hsz,hz];omega
  ·have HD:Hid (dd.data.toList=dpad n k):=by
    show _=_
    rw [(unhide HI).1]
    unfold dpad
    have hh:=unhide HI
    rw [unhide HL,show k+1-L=j from by omega]
   clear HI HDL HDS
   obtain ⟨q,rfl⟩:∃ q,z=q+k:=⟨z-k,by omega⟩
   by_cases hk0:k=0
   ·subst hk0
    have SG1:=hide (unhide SG wr nb (unhide F8).2)
    have HQ:Hid (dd.extract 0 q=dd):=by
     show _=_
     have hz':q=dd.size:=by omega
     rw [hz']
     exact ByteArray.extract_zero_size
    rw [Nat.add_zero] at hz
    have DT:=hide (fun s t ht=>dec_plain n q s dd (unhide HD) hz t ht)
    clear SG
    go_wp2_with fail
    refine (unhide SG1).mono ?_
    rintro e w9 ⟨rfl,hw⟩
    obtain rfl:=hw.symm
    clear hw
    rcases sc with ⟨h1,rfl⟩ | ⟨h1,rfl⟩ | ⟨h1,rfl⟩
    ·have HSg:Hid (decide (N<0)=false):=decide_eq_false (by omega)
     clear h1
     go_wp2
     go_ret
     exact ⟨dd,rfl,by rw [unhide HSg];exact unhide DT false dd (by rw [unhide HQ];rfl),(unhide F8).1⟩
    ·have HSg:Hid (decide (N<0)=false):=decide_eq_false (by omega)
     clear h1
     go_wp2
     go_ret
     exact ⟨dd,rfl,by rw [unhide HSg];exact unhide DT false dd (by rw [unhide HQ];rfl),(unhide F8).1⟩
    ·have HSg:Hid (decide (N<0)=true):=decide_eq_true h1
     clear h1
     go_wp2
     go_ret
     exact ⟨⟨#[45]⟩++dd,rfl,by rw [unhide HSg];exact unhide DT true _ (by rw [unhide HQ];rfl),(unhide F8).1⟩
   ·have hk1:0<(k:Int):=by omega
    have SG1:=hide (fun nq=>unhide SG (wr.drewN nq) nb ((unhide F8).2.but ((But.refl _ _).drewN nq)))
    have q1:((q+k:Nat):Int)-(k:Int)=(q:Int):=by omega
    have q2:IntKind.i64.wrap ((q:Int)+(k:Int)-(k:Int))=(q:Int):=by rw [IntKind.wrap_i64];omega
    have DT:=hide (fun s t ht=>dec_point n k q (q+k) s dd (unhide HD) hz rfl (by omega) t ht)
    clear SG
    go_wp2
    go_quiet (fail)
    go_wp2_with fail
    refine (unhide SG1 nq).mono ?_
    rintro e w9 ⟨rfl,hw⟩
    obtain rfl:=hw.symm
    clear hw
    rcases sc with ⟨h1,rfl⟩ | ⟨h1,rfl⟩ | ⟨h1,rfl⟩
    ·have HSg:Hid (decide (N<0)=false):=decide_eq_false (by omega)
     clear h1
     go_wp2
     go_ret
     exact ⟨_,rfl,by rw [unhide HSg];exact unhide DT false _ (by rw [ByteArray.append_assoc];rfl),(unhide F8).1.drewN _⟩
    ·have HSg:Hid (decide (N<0)=false):=decide_eq_false (by omega)
     clear h1
     go_wp2
     go_ret
     exact ⟨_,rfl,by rw [unhide HSg];exact unhide DT false _ (by rw [ByteArray.append_assoc];rfl),(unhide F8).1.drewN _⟩
    ·have HSg:Hid (decide (N<0)=true):=decide_eq_true h1
     clear h1
     go_wp2
     go_ret
     exact ⟨_,rfl,by rw [unhide HSg];exact unhide DT true _ (by rw [ByteArray.append_assoc];rfl),(unhide F8).1.drewN _⟩
end Go.Proofs.YteipfplbcbaheaaGreatDoor
