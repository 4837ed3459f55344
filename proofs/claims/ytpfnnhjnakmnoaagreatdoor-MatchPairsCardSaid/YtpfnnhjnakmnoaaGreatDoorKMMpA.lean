/- The reference's numbers, in one form; it -/
import Derived.Test.YtpfnnhjnakmnoaaGreatDoorKMHNr
import Derived.Test.YtpfnnhjnakmnoaaGreatDoorKMHSr
import Derived.Test.YtpfnnhjnakmnoaaGreatDoorKMQV
namespace Go.Proofs.YtpfnnhjnakmnoaaGreatDoor
open Go.RowKit
set_option maxHeartbeats 16000000
set_option maxRecDepth 100000
set_option linter.unusedVariables false
theorem refIntQ (z:Int) (w:World) (h1:-9223372036854775808≤z) (h2:z<9223372036854775808) :
  Calls Tryz.prog 36 #[.int .i64 z] w fun e w'=>∃ zb,e=.returned (.pointer (some ⟨zb,0,none⟩))∧RatIs w' zb (((z:Int):Rat))∧But [] w w':=by
 obtain ⟨i1,i2⟩:=int_parts z
 exact (refInt_any z w h1 h2).mono fun e w' ⟨zb,he,hb,hr⟩=>⟨zb,he,by unfold RatIs;rw [i1,i2];exact hr,hb⟩
theorem refAddQ (xb yb:Nat) (f g:Rat) (w:World) (hx:RatIs w xb f) (hy:RatIs w yb g) (lf:LenU f 2000000) (lg:LenU g 2000000) :
  Calls Tryz.prog 47 #[.pointer (some ⟨xb,0,none⟩),.pointer (some ⟨yb,0,none⟩)] w fun e w'=>∃ zb,e=.returned (.pointer (some ⟨zb,0,none⟩))∧RatIs w' zb (f+g)∧But [] w w' :=
 (refAdd_any xb yb f g w hx hy lf lg).mono fun e w' ⟨zb,he,hb,hr,_⟩=>⟨zb,he,hr,hb⟩
theorem refMulQ (xb yb:Nat) (f g:Rat) (w:World) (hx:RatIs w xb f) (hy:RatIs w yb g) (lf:LenU f 2000000) (lg:LenU g 2000000) :
  Calls Tryz.prog 35 #[.pointer (some ⟨xb,0,none⟩),.pointer (some ⟨yb,0,none⟩)] w fun e w'=>∃ zb,e=.returned (.pointer (some ⟨zb,0,none⟩))∧RatIs w' zb (f*g)∧But [] w w' :=
 (refMul_any xb yb f g w hx hy lf lg).mono fun e w' ⟨zb,he,hb,hr,_⟩=>⟨zb,he,hr,hb⟩
theorem refDivQ (xb yb:Nat) (f g q:Rat) (w:World) (hx:RatIs w xb f) (hy:RatIs w yb g) (lf:LenU f 2000000) (lg:LenU g 2000000) (hg0:g.num≠0) (hq:q*g=f) :
  Calls Tryz.prog 49 #[.pointer (some ⟨xb,0,none⟩),.pointer (some ⟨yb,0,none⟩)] w fun e w'=>∃ zb,e=.returned (.pointer (some ⟨zb,0,none⟩))∧RatIs w' zb (q)∧But [] w w' :=
 (refDivU_any xb yb f g q w hx hy lf lg hg0 hq).mono fun e w' ⟨zb,he,hb,hr,_⟩=>⟨zb,he,hr,hb⟩
theorem refOfQ (o u:Int) (f:Rat) (w:World) (ho1:-9223372036854775808≤o) (ho2:o<9223372036854775808) (hu1:-9223372036854775808≤u) (hu2:u<9223372036854775808) (hf:f.num*(if u=0 then 1 else u)=o*(f.den:Int)) :
  Calls Tryz.prog 12 #[.agg #[.int .i64 o,.int .i64 u]] w fun e w'=>∃ zb,e=.returned (.pointer (some ⟨zb,0,none⟩))∧RatIs w' zb (f)∧But [] w w' :=
 (refOf_any o u f w ho1 ho2 hu1 hu2 hf).mono fun e w' ⟨zb,he,hb,hr,_⟩=>⟨zb,he,hr,hb⟩
theorem refSignQ (b:Nat) (f:Rat) (w:World) (h:RatIs w b f) (s:Int) (hs:s=f.num.sign) (hl:LenU f 2000000) :
  Calls Tryz.prog 48 #[.pointer (some ⟨b,0,none⟩)] w fun e w'=>e=.returned (.int .i64 s)∧But [] w w' :=
 (ratSign_any b f.num (f.den:Int) w h s hs (by have:=hl.1;omega)).mono fun e w' ⟨he,hw⟩=>⟨he,by rw [hw];exact But.refl _ _⟩
theorem LenU.int {z:Int} (h:z.natAbs<18446744073709551616):LenU ((z:Int):Rat) 2:=by
 obtain ⟨i1,i2⟩:=int_parts z
 exact ⟨by rw [i1];exact len_le_two _ h,by rw [i2];exact len_le_two _ (by omega)⟩
theorem LenU.rpow {f:Rat} {m:Nat} (h:LenU f m) (n:Nat):LenU (f^n) (m*n+1):=by
 rw [← rpow_isV];exact lenU_rpow h n
theorem refPowerQ (ab:Nat) (f:Rat) (n:Nat) (w:World) (ha:RatIs w ab f) (lf:LenU f 1000) (hn:n≤200) :
  Calls Tryz.prog 50 #[.pointer (some ⟨ab,0,none⟩),.int .i64 (n:Int)] w fun e w'=>∃ zb,e=.returned (.pointer (some ⟨zb,0,none⟩))∧RatIs w' zb (f^n)∧But [] w w':=by
 have HA:=hide ha
 have HL:=hide lf
 have IN:=hide (refInt_any 1 w (by omega) (by omega))
 rw [← rpow_isV]
 clear ha lf
 go_enter Tryz.func50,Tryz.ntmps50
 go_wp2_with fail
 refine (unhide IN).mono ?_
 rintro e w1 ⟨ib,rfl,B1,I1⟩
 have K1:=hide (And.intro B1 I1)
 clear B1 I1 IN
 go_wp2
 go_loopw [5,6] (fun p i wr=>∃ (k pb:Nat),k≤n∧i=.int .i64 (k:Int)∧p=.pointer (some ⟨pb,0,none⟩)∧Hid (But [] w wr∧RatIs wr pb (Go.Proofs.YtpfnnhjnakmnoaaGreatDoor.rpow f k))) (fun _ i _=>n-(intOf i).toNat)
 case atStart=>exact ⟨0,ib,by omega,rfl,rfl,(unhide K1).1,(unhide K1).2⟩
 case round =>
  obtain ⟨k,pb,hk,rfl,rfl,HI⟩:=hrel
  rename World=>wr
  by_cases hlt:k<n
  ·have MU:=hide (refMul_any pb ab (Go.Proofs.YtpfnnhjnakmnoaaGreatDoor.rpow f k) f wr (unhide HI).2 ((unhide HA).but (unhide HI).1) ((lenU_rpow (unhide HL) k).mono (by omega)) ((unhide HL).mono (by omega)))
   go_wp2_with fail
   refine (unhide MU).mono ?_
   rintro e w2 ⟨zb,rfl,B2,R2,-⟩
   have K2:Hid (But [] w w2∧RatIs w2 zb (Go.Proofs.YtpfnnhjnakmnoaaGreatDoor.rpow f (k+1))):=⟨(unhide HI).1.trans' B2,R2⟩
   clear B2 R2 MU
   go_wp2
   refine ⟨⟨k+1,zb,by omega,by go_num,rfl,(unhide K2).1,(unhide K2).2⟩,?_⟩
   simp [intOf];omega
  ·have hke:k=n:=by omega
   subst hke
   go_wp2
   go_ret
   exact ⟨pb,rfl,(unhide HI).2,(unhide HI).1⟩
theorem refPair_ok (db rb:Nat) (D f x y':Rat) (ta th tb sD:Int) (n1 n2:Nat) (w:World) (hd:RatIs w db D) (hr:RatIs w rb f) (ld:LenU D 2) (lf:LenU f 2) (hf:-1<f) (hD:0≤sD) (hsD:sD=D.num.sign) (h1:0≤th) (h2:th<ta) (h3:ta<tb) (h4:tb≤120) (hn1:ta-th=(n1:Int)) (hn2:tb-ta=(n2:Int)) (hne1:(((tb-th:Int):Rat)*(1+f)^n1).num≠0) (hne2:(((tb-th:Int):Rat)).num≠0) (hx:x*(((tb-th:Int):Rat)*(1+f)^n1)=D*((tb-ta:Int):Rat)) (hy:y' * ((tb-th:Int):Rat)=D*((ta-th:Int):Rat)) (ly:LenU y' 2000000) :
  Calls Tryz.prog 14 #[.pointer (some ⟨db,0,none⟩),.int .i64 ta,.int .i64 th,.int .i64 tb,.pointer (some ⟨rb,0,none⟩)] w fun e w'=>∃ xb yb,e=.returned (.tuple #[.pointer (some ⟨xb,0,none⟩),.pointer (some ⟨yb,0,none⟩),.int .i64 0])∧RatIs w' xb x∧RatIs w' yb (y' * (1+f)^n2)∧But [] w w':=by
 have lg:LenU (((1:Int):Rat)+f) 5:=(LenU.int (by decide)).add lf
 have I1:Hid (∀ W,Calls Tryz.prog 36 #[.int .i64 (1)] W fun e w'=>∃ zb,e=.returned (.pointer (some ⟨zb,0,none⟩))∧RatIs w' zb (((1:Int):Rat))∧But [] W w'):=fun W=>refIntQ (1) W (by omega) (by omega)
 have AD:Hid (∀ W xb,RatIs W xb (((1:Int):Rat))→RatIs W rb (f)→Calls Tryz.prog 47 #[.pointer (some ⟨xb,0,none⟩),.pointer (some ⟨rb,0,none⟩)] W fun e w'=>∃ zb,e=.returned (.pointer (some ⟨zb,0,none⟩))∧RatIs w' zb (((1:Int):Rat)+f)∧But [] W w'):=fun W xb h1 h2=>refAddQ xb rb _ _ W h1 h2 ((LenU.int (by decide)).mono (by omega)) (lf.mono (by omega))
 have SG:Hid (∀ W gb,RatIs W gb (((1:Int):Rat)+f)→Calls Tryz.prog 48 #[.pointer (some ⟨gb,0,none⟩)] W fun e w'=>e=.returned (.int .i64 1)∧But [] W w'):=fun W gb h=>refSignQ gb _ W h 1 (Int.sign_eq_one_of_pos (one_pos_num hf)).symm (lg.mono (by omega))
 have SD:Hid (∀ W,RatIs W db D→Calls Tryz.prog 48 #[.pointer (some ⟨db,0,none⟩)] W fun e w'=>e=.returned (.int .i64 sD)∧But [] W w'):=fun W h=>refSignQ db _ W h sD hsD (ld.mono (by omega))
 have J1:Hid (∀ W,Calls Tryz.prog 36 #[.int .i64 (tb-ta)] W fun e w'=>∃ zb,e=.returned (.pointer (some ⟨zb,0,none⟩))∧RatIs w' zb (((tb-ta:Int):Rat))∧But [] W w'):=fun W=>refIntQ (tb-ta) W (by omega) (by omega)
 have M1:Hid (∀ W yb,RatIs W db (D)→RatIs W yb (((tb-ta:Int):Rat))→Calls Tryz.prog 35 #[.pointer (some ⟨db,0,none⟩),.pointer (some ⟨yb,0,none⟩)] W fun e w'=>∃ zb,e=.returned (.pointer (some ⟨zb,0,none⟩))∧RatIs w' zb (D*(((tb-ta:Int):Rat)))∧But [] W w'):=fun W yb h1 h2=>refMulQ db yb _ _ W h1 h2 (ld.mono (by omega)) ((LenU.int (by omega)).mono (by omega))
 have J2:Hid (∀ W,Calls Tryz.prog 36 #[.int .i64 (tb-th)] W fun e w'=>∃ zb,e=.returned (.pointer (some ⟨zb,0,none⟩))∧RatIs w' zb (((tb-th:Int):Rat))∧But [] W w'):=fun W=>refIntQ (tb-th) W (by omega) (by omega)
 have PW:Hid (∀ W gb,RatIs W gb (((1:Int):Rat)+f)→Calls Tryz.prog 50 #[.pointer (some ⟨gb,0,none⟩),.int .i64 (ta-th)] W fun e w'=>∃ zb,e=.returned (.pointer (some ⟨zb,0,none⟩))∧RatIs w' zb ((1+f)^n1)∧But [] W w'):=fun W gb h=>by rw [hn1];exact refPowerQ gb _ n1 W h (lg.mono (by omega)) (by omega)
 have PV:Hid (∀ W gb,RatIs W gb (((1:Int):Rat)+f)→Calls Tryz.prog 50 #[.pointer (some ⟨gb,0,none⟩),.int .i64 (tb-ta)] W fun e w'=>∃ zb,e=.returned (.pointer (some ⟨zb,0,none⟩))∧RatIs w' zb ((1+f)^n2)∧But [] W w'):=fun W gb h=>by rw [hn2];exact refPowerQ gb _ n2 W h (lg.mono (by omega)) (by omega)
 have M2:Hid (∀ W xb yb,RatIs W xb (((tb-th:Int):Rat))→RatIs W yb ((1+f)^n1)→Calls Tryz.prog 35 #[.pointer (some ⟨xb,0,none⟩),.pointer (some ⟨yb,0,none⟩)] W fun e w'=>∃ zb,e=.returned (.pointer (some ⟨zb,0,none⟩))∧RatIs w' zb (((tb-th:Int):Rat)*((1+f)^n1))∧But [] W w'):=fun W xb yb h1 h2=>refMulQ xb yb _ _ W h1 h2 ((LenU.int (by omega)).mono (by omega)) ((lg.rpow n1).mono (by omega))
 have DV:Hid (∀ W xb yb,RatIs W xb (D*((tb-ta:Int):Rat))→RatIs W yb (((tb-th:Int):Rat)*(1+f)^n1)→Calls Tryz.prog 49 #[.pointer (some ⟨xb,0,none⟩),.pointer (some ⟨yb,0,none⟩)] W fun e w'=>∃ zb,e=.returned (.pointer (some ⟨zb,0,none⟩))∧RatIs w' zb (x)∧But [] W w'):=fun W xb yb h1 h2=>refDivQ xb yb _ _ x W h1 h2 ((ld.mul (LenU.int (by omega))).mono (by omega)) (((LenU.int (by omega)).mul (lg.rpow n1)).mono (by omega)) hne1 hx
 have J3:Hid (∀ W,Calls Tryz.prog 36 #[.int .i64 (ta-th)] W fun e w'=>∃ zb,e=.returned (.pointer (some ⟨zb,0,none⟩))∧RatIs w' zb (((ta-th:Int):Rat))∧But [] W w'):=fun W=>refIntQ (ta-th) W (by omega) (by omega)
 have M3:Hid (∀ W yb,RatIs W db (D)→RatIs W yb (((ta-th:Int):Rat))→Calls Tryz.prog 35 #[.pointer (some ⟨db,0,none⟩),.pointer (some ⟨yb,0,none⟩)] W fun e w'=>∃ zb,e=.returned (.pointer (some ⟨zb,0,none⟩))∧RatIs w' zb (D*(((ta-th:Int):Rat)))∧But [] W w'):=fun W yb h1 h2=>refMulQ db yb _ _ W h1 h2 (ld.mono (by omega)) ((LenU.int (by omega)).mono (by omega))
 have DW:Hid (∀ W xb yb,RatIs W xb (D*((ta-th:Int):Rat))→RatIs W yb (((tb-th:Int):Rat))→Calls Tryz.prog 49 #[.pointer (some ⟨xb,0,none⟩),.pointer (some ⟨yb,0,none⟩)] W fun e w'=>∃ zb,e=.returned (.pointer (some ⟨zb,0,none⟩))∧RatIs w' zb (y')∧But [] W w'):=fun W xb yb h1 h2=>refDivQ xb yb _ _ y' W h1 h2 ((ld.mul (LenU.int (by omega))).mono (by omega)) ((LenU.int (by omega)).mono (by omega)) hne2 hy
 have M4:Hid (∀ W xb yb,RatIs W xb (y')→RatIs W yb ((1+f)^n2)→Calls Tryz.prog 35 #[.pointer (some ⟨xb,0,none⟩),.pointer (some ⟨yb,0,none⟩)] W fun e w'=>∃ zb,e=.returned (.pointer (some ⟨zb,0,none⟩))∧RatIs w' zb (y' * ((1+f)^n2))∧But [] W w'):=fun W xb yb h1 h2=>refMulQ xb yb _ _ W h1 h2 ly ((lg.rpow n2).mono (by omega))
 have S0:=hide (And.intro (But.refl [] w) (And.intro hd hr))
 clear hd hr hx hy hne1 hne2 hf lf ld lg ly hsD hn1 hn2
 go_enter Tryz.func14,Tryz.ntmps14
 go_wp2_with fail
 refine (unhide I1 _ ).mono ?_
 rintro e w1 ⟨bone,rfl,R1,B1⟩
 have S1:=hide (And.intro ((unhide S0).1.trans' B1) (And.intro ((unhide S0).2.1.but B1) (And.intro ((unhide S0).2.2.but B1) (R1))))
 clear B1 S0 R1
 go_wp2_with fail
 refine (unhide AD _ _ ((unhide S1).2.2.2) ((unhide S1).2.2.1)).mono ?_
 rintro e w2 ⟨bg,rfl,R2,B2⟩
 have S2:=hide (And.intro ((unhide S1).1.trans' B2) (And.intro ((unhide S1).2.1.but B2) (And.intro ((unhide S1).2.2.1.but B2) (And.intro ((unhide S1).2.2.2.but B2) (R2)))))
 clear B2 S1 R2
 go_wp2_with fail
 refine (unhide SG _ _ ((unhide S2).2.2.2.2)).mono ?_
 rintro e w3 ⟨rfl,B3⟩
 have S3:=hide (And.intro ((unhide S2).1.trans' B3) (And.intro ((unhide S2).2.1.but B3) (And.intro ((unhide S2).2.2.1.but B3) (And.intro ((unhide S2).2.2.2.1.but B3) ((unhide S2).2.2.2.2.but B3)))))
 clear B3 S2
 go_wp2_with fail
 refine (unhide SD _ ((unhide S3).2.1)).mono ?_
 rintro e w4 ⟨rfl,B4⟩
 have S4:=hide (And.intro ((unhide S3).1.trans' B4) (And.intro ((unhide S3).2.1.but B4) (And.intro ((unhide S3).2.2.1.but B4) (And.intro ((unhide S3).2.2.2.1.but B4) ((unhide S3).2.2.2.2.but B4)))))
 clear B4 S3
 go_wp2_with fail
 refine (unhide J1 _ ).mono ?_
 rintro e w5 ⟨bbt,rfl,R5,B5⟩
 have S5:=hide (And.intro ((unhide S4).1.trans' B5) (And.intro ((unhide S4).2.1.but B5) (And.intro ((unhide S4).2.2.1.but B5) (And.intro ((unhide S4).2.2.2.1.but B5) (And.intro ((unhide S4).2.2.2.2.but B5) (R5))))))
 clear B5 S4 R5
 go_wp2_with fail
 refine (unhide M1 _ _ ((unhide S5).2.1) ((unhide S5).2.2.2.2.2)).mono ?_
 rintro e w6 ⟨bm1,rfl,R6,B6⟩
 have S6:=hide (And.intro ((unhide S5).1.trans' B6) (And.intro ((unhide S5).2.1.but B6) (And.intro ((unhide S5).2.2.1.but B6) (And.intro ((unhide S5).2.2.2.1.but B6) (And.intro ((unhide S5).2.2.2.2.1.but B6) (And.intro ((unhide S5).2.2.2.2.2.but B6) (R6)))))))
 clear B6 S5 R6
 go_wp2_with fail
 refine (unhide J2 _ ).mono ?_
 rintro e w7 ⟨bba,rfl,R7,B7⟩
 have S7:=hide (And.intro ((unhide S6).1.trans' B7) (And.intro ((unhide S6).2.1.but B7) (And.intro ((unhide S6).2.2.1.but B7) (And.intro ((unhide S6).2.2.2.1.but B7) (And.intro ((unhide S6).2.2.2.2.1.but B7) (And.intro ((unhide S6).2.2.2.2.2.1.but B7) (And.intro ((unhide S6).2.2.2.2.2.2.but B7) (R7))))))))
 clear B7 S6 R7
 go_wp2_with fail
 refine (unhide PW _ _ ((unhide S7).2.2.2.2.1)).mono ?_
 rintro e w8 ⟨bpw,rfl,R8,B8⟩
 have S8:=hide (And.intro ((unhide S7).1.trans' B8) (And.intro ((unhide S7).2.1.but B8) (And.intro ((unhide S7).2.2.1.but B8) (And.intro ((unhide S7).2.2.2.1.but B8) (And.intro ((unhide S7).2.2.2.2.1.but B8) (And.intro ((unhide S7).2.2.2.2.2.1.but B8) (And.intro ((unhide S7).2.2.2.2.2.2.1.but B8) (And.intro ((unhide S7).2.2.2.2.2.2.2.but B8) (R8)))))))))
 clear B8 S7 R8
 go_wp2_with fail
 refine (unhide M2 _ _ _ ((unhide S8).2.2.2.2.2.2.2.1) ((unhide S8).2.2.2.2.2.2.2.2)).mono ?_
 rintro e w9 ⟨bm2,rfl,R9,B9⟩
 have S9:=hide (And.intro ((unhide S8).1.trans' B9) (And.intro ((unhide S8).2.1.but B9) (And.intro ((unhide S8).2.2.1.but B9) (And.intro ((unhide S8).2.2.2.1.but B9) (And.intro ((unhide S8).2.2.2.2.1.but B9) (And.intro ((unhide S8).2.2.2.2.2.1.but B9) (And.intro ((unhide S8).2.2.2.2.2.2.1.but B9) (And.intro ((unhide S8).2.2.2.2.2.2.2.1.but B9) (And.intro ((unhide S8).2.2.2.2.2.2.2.2.but B9) (R9))))))))))
 clear B9 S8 R9
 go_wp2_with fail
 refine (unhide DV _ _ _ ((unhide S9).2.2.2.2.2.2.1) ((unhide S9).2.2.2.2.2.2.2.2.2)).mono ?_
 rintro e w10 ⟨bx,rfl,R10,B10⟩
 have S10:=hide (And.intro ((unhide S9).1.trans' B10) (And.intro ((unhide S9).2.1.but B10) (And.intro ((unhide S9).2.2.1.but B10) (And.intro ((unhide S9).2.2.2.1.but B10) (And.intro ((unhide S9).2.2.2.2.1.but B10) (And.intro ((unhide S9).2.2.2.2.2.1.but B10) (And.intro ((unhide S9).2.2.2.2.2.2.1.but B10) (And.intro ((unhide S9).2.2.2.2.2.2.2.1.but B10) (And.intro ((unhide S9).2.2.2.2.2.2.2.2.1.but B10) (And.intro ((unhide S9).2.2.2.2.2.2.2.2.2.but B10) (R10)))))))))))
 clear B10 S9 R10
 go_wp2_with fail
 refine (unhide J3 _ ).mono ?_
 rintro e w11 ⟨bta,rfl,R11,B11⟩
 have S11:=hide (And.intro ((unhide S10).1.trans' B11) (And.intro ((unhide S10).2.1.but B11) (And.intro ((unhide S10).2.2.1.but B11) (And.intro ((unhide S10).2.2.2.1.but B11) (And.intro ((unhide S10).2.2.2.2.1.but B11) (And.intro ((unhide S10).2.2.2.2.2.1.but B11) (And.intro ((unhide S10).2.2.2.2.2.2.1.but B11) (And.intro ((unhide S10).2.2.2.2.2.2.2.1.but B11) (And.intro ((unhide S10).2.2.2.2.2.2.2.2.1.but B11) (And.intro ((unhide S10).2.2.2.2.2.2.2.2.2.1.but B11) (And.intro ((unhide S10).2.2.2.2.2.2.2.2.2.2.but B11) (R11))))))))))))
 clear B11 S10 R11
 go_wp2_with fail
 refine (unhide M3 _ _ ((unhide S11).2.1) ((unhide S11).2.2.2.2.2.2.2.2.2.2.2)).mono ?_
 rintro e w12 ⟨bm3,rfl,R12,B12⟩
 have S12:=hide (And.intro ((unhide S11).1.trans' B12) (And.intro ((unhide S11).2.1.but B12) (And.intro ((unhide S11).2.2.1.but B12) (And.intro ((unhide S11).2.2.2.1.but B12) (And.intro ((unhide S11).2.2.2.2.1.but B12) (And.intro ((unhide S11).2.2.2.2.2.1.but B12) (And.intro ((unhide S11).2.2.2.2.2.2.1.but B12) (And.intro ((unhide S11).2.2.2.2.2.2.2.1.but B12) (And.intro ((unhide S11).2.2.2.2.2.2.2.2.1.but B12) (And.intro ((unhide S11).2.2.2.2.2.2.2.2.2.1.but B12) (And.intro ((unhide S11).2.2.2.2.2.2.2.2.2.2.1.but B12) (And.intro ((unhide S11).2.2.2.2.2.2.2.2.2.2.2.but B12) (R12)))))))))))))
 clear B12 S11 R12
 go_wp2_with fail
 refine (unhide J2 _ ).mono ?_
 rintro e w13 ⟨bbb,rfl,R13,B13⟩
 have S13:=hide (And.intro ((unhide S12).1.trans' B13) (And.intro ((unhide S12).2.1.but B13) (And.intro ((unhide S12).2.2.1.but B13) (And.intro ((unhide S12).2.2.2.1.but B13) (And.intro ((unhide S12).2.2.2.2.1.but B13) (And.intro ((unhide S12).2.2.2.2.2.1.but B13) (And.intro ((unhide S12).2.2.2.2.2.2.1.but B13) (And.intro ((unhide S12).2.2.2.2.2.2.2.1.but B13) (And.intro ((unhide S12).2.2.2.2.2.2.2.2.1.but B13) (And.intro ((unhide S12).2.2.2.2.2.2.2.2.2.1.but B13) (And.intro ((unhide S12).2.2.2.2.2.2.2.2.2.2.1.but B13) (And.intro ((unhide S12).2.2.2.2.2.2.2.2.2.2.2.1.but B13) (And.intro ((unhide S12).2.2.2.2.2.2.2.2.2.2.2.2.but B13) (R13))))))))))))))
 clear B13 S12 R13
 go_wp2_with fail
 refine (unhide DW _ _ _ ((unhide S13).2.2.2.2.2.2.2.2.2.2.2.2.1) ((unhide S13).2.2.2.2.2.2.2.2.2.2.2.2.2)).mono ?_
 rintro e w14 ⟨byy,rfl,R14,B14⟩
 have S14:=hide (And.intro ((unhide S13).1.trans' B14) (And.intro ((unhide S13).2.1.but B14) (And.intro ((unhide S13).2.2.1.but B14) (And.intro ((unhide S13).2.2.2.1.but B14) (And.intro ((unhide S13).2.2.2.2.1.but B14) (And.intro ((unhide S13).2.2.2.2.2.1.but B14) (And.intro ((unhide S13).2.2.2.2.2.2.1.but B14) (And.intro ((unhide S13).2.2.2.2.2.2.2.1.but B14) (And.intro ((unhide S13).2.2.2.2.2.2.2.2.1.but B14) (And.intro ((unhide S13).2.2.2.2.2.2.2.2.2.1.but B14) (And.intro ((unhide S13).2.2.2.2.2.2.2.2.2.2.1.but B14) (And.intro ((unhide S13).2.2.2.2.2.2.2.2.2.2.2.1.but B14) (And.intro ((unhide S13).2.2.2.2.2.2.2.2.2.2.2.2.1.but B14) (And.intro ((unhide S13).2.2.2.2.2.2.2.2.2.2.2.2.2.but B14) (R14)))))))))))))))
 clear B14 S13 R14
 go_wp2_with fail
 refine (unhide PV _ _ ((unhide S14).2.2.2.2.1)).mono ?_
 rintro e w15 ⟨bpv,rfl,R15,B15⟩
 have S15:=hide (And.intro ((unhide S14).1.trans' B15) (And.intro ((unhide S14).2.1.but B15) (And.intro ((unhide S14).2.2.1.but B15) (And.intro ((unhide S14).2.2.2.1.but B15) (And.intro ((unhide S14).2.2.2.2.1.but B15) (And.intro ((unhide S14).2.2.2.2.2.1.but B15) (And.intro ((unhide S14).2.2.2.2.2.2.1.but B15) (And.intro ((unhide S14).2.2.2.2.2.2.2.1.but B15) (And.intro ((unhide S14).2.2.2.2.2.2.2.2.1.but B15) (And.intro ((unhide S14).2.2.2.2.2.2.2.2.2.1.but B15) (And.intro ((unhide S14).2.2.2.2.2.2.2.2.2.2.1.but B15) (And.intro ((unhide S14).2.2.2.2.2.2.2.2.2.2.2.1.but B15) (And.intro ((unhide S14).2.2.2.2.2.2.2.2.2.2.2.2.1.but B15) (And.intro ((unhide S14).2.2.2.2.2.2.2.2.2.2.2.2.2.1.but B15) (And.intro ((unhide S14).2.2.2.2.2.2.2.2.2.2.2.2.2.2.but B15) (R15))))))))))))))))
 clear B15 S14 R15
 go_wp2_with fail
 refine (unhide M4 _ _ _ ((unhide S15).2.2.2.2.2.2.2.2.2.2.2.2.2.2.1) ((unhide S15).2.2.2.2.2.2.2.2.2.2.2.2.2.2.2)).mono ?_
 rintro e w16 ⟨by_,rfl,R16,B16⟩
 have S16:=hide (And.intro ((unhide S15).1.trans' B16) (And.intro ((unhide S15).2.1.but B16) (And.intro ((unhide S15).2.2.1.but B16) (And.intro ((unhide S15).2.2.2.1.but B16) (And.intro ((unhide S15).2.2.2.2.1.but B16) (And.intro ((unhide S15).2.2.2.2.2.1.but B16) (And.intro ((unhide S15).2.2.2.2.2.2.1.but B16) (And.intro ((unhide S15).2.2.2.2.2.2.2.1.but B16) (And.intro ((unhide S15).2.2.2.2.2.2.2.2.1.but B16) (And.intro ((unhide S15).2.2.2.2.2.2.2.2.2.1.but B16) (And.intro ((unhide S15).2.2.2.2.2.2.2.2.2.2.1.but B16) (And.intro ((unhide S15).2.2.2.2.2.2.2.2.2.2.2.1.but B16) (And.intro ((unhide S15).2.2.2.2.2.2.2.2.2.2.2.2.1.but B16) (And.intro ((unhide S15).2.2.2.2.2.2.2.2.2.2.2.2.2.1.but B16) (And.intro ((unhide S15).2.2.2.2.2.2.2.2.2.2.2.2.2.2.1.but B16) (And.intro ((unhide S15).2.2.2.2.2.2.2.2.2.2.2.2.2.2.2.but B16) (R16)))))))))))))))))
 clear B16 S15 R16
 go_wp2
 exact bodyPost_ret (v:=.tuple #[.pointer (some ⟨bx,0,none⟩),.pointer (some ⟨by_,0,none⟩),.int .i64 0]) (by simp [results,Tryz.results14,go_sem]) rfl ⟨bx,by_,rfl,(unhide S16).2.2.2.2.2.2.2.2.2.2.1,(unhide S16).2.2.2.2.2.2.2.2.2.2.2.2.2.2.2.2,(unhide S16).1⟩
theorem refPair_errA (db rb:Nat) (ta th tb:Int) (w:World) (h1:th<0) :
  Calls Tryz.prog 14 #[.pointer (some ⟨db,0,none⟩),.int .i64 ta,.int .i64 th,.int .i64 tb,.pointer (some ⟨rb,0,none⟩)] w fun e w'=>e=.returned (.tuple #[.pointer none,.pointer none,.int .i64 2])∧But [] w w':=by
 go_enter Tryz.func14,Tryz.ntmps14
 go_wp2
 exact bodyPost_ret (v:=.tuple #[.pointer none,.pointer none,.int .i64 2]) (by simp [results,Tryz.results14,go_sem]) rfl ⟨rfl,But.refl _ _⟩
theorem refPair_errB (db rb:Nat) (ta th tb:Int) (w:World) (h1:0≤th) (h2:¬ th<ta) :
  Calls Tryz.prog 14 #[.pointer (some ⟨db,0,none⟩),.int .i64 ta,.int .i64 th,.int .i64 tb,.pointer (some ⟨rb,0,none⟩)] w fun e w'=>e=.returned (.tuple #[.pointer none,.pointer none,.int .i64 2])∧But [] w w':=by
 go_enter Tryz.func14,Tryz.ntmps14
 go_wp2
 exact bodyPost_ret (v:=.tuple #[.pointer none,.pointer none,.int .i64 2]) (by simp [results,Tryz.results14,go_sem]) rfl ⟨rfl,But.refl _ _⟩
theorem refPair_errC (db rb:Nat) (ta th tb:Int) (w:World) (h1:0≤th) (h2:th<ta) (h3:¬ ta<tb) :
  Calls Tryz.prog 14 #[.pointer (some ⟨db,0,none⟩),.int .i64 ta,.int .i64 th,.int .i64 tb,.pointer (some ⟨rb,0,none⟩)] w fun e w'=>e=.returned (.tuple #[.pointer none,.pointer none,.int .i64 2])∧But [] w w':=by
 go_enter Tryz.func14,Tryz.ntmps14
 go_wp2
 exact bodyPost_ret (v:=.tuple #[.pointer none,.pointer none,.int .i64 2]) (by simp [results,Tryz.results14,go_sem]) rfl ⟨rfl,But.refl _ _⟩
theorem refPair_errD (db rb:Nat) (ta th tb:Int) (w:World) (h1:0≤th) (h2:th<ta) (h3:ta<tb) (h4:120<tb) :
  Calls Tryz.prog 14 #[.pointer (some ⟨db,0,none⟩),.int .i64 ta,.int .i64 th,.int .i64 tb,.pointer (some ⟨rb,0,none⟩)] w fun e w'=>e=.returned (.tuple #[.pointer none,.pointer none,.int .i64 2])∧But [] w w':=by
 go_enter Tryz.func14,Tryz.ntmps14
 go_wp2
 exact bodyPost_ret (v:=.tuple #[.pointer none,.pointer none,.int .i64 2]) (by simp [results,Tryz.results14,go_sem]) rfl ⟨rfl,But.refl _ _⟩
theorem refPair_errE (db rb:Nat) (D f:Rat) (ta th tb sg sD:Int) (w:World) (hd:RatIs w db D) (hr:RatIs w rb f) (ld:LenU D 2) (lf:LenU f 2) (hf:sg=(((1:Int):Rat)+f).num.sign) (hsD:sD=D.num.sign) (h1:0≤th) (h2:th<ta) (h3:ta<tb) (h4:tb≤120) (hg:sg≤0) :
  Calls Tryz.prog 14 #[.pointer (some ⟨db,0,none⟩),.int .i64 ta,.int .i64 th,.int .i64 tb,.pointer (some ⟨rb,0,none⟩)] w fun e w'=>e=.returned (.tuple #[.pointer none,.pointer none,.int .i64 1])∧But [] w w':=by
 have lg:LenU (((1:Int):Rat)+f) 5:=(LenU.int (by decide)).add lf
 have I1:Hid (∀ W,Calls Tryz.prog 36 #[.int .i64 (1)] W fun e w'=>∃ zb,e=.returned (.pointer (some ⟨zb,0,none⟩))∧RatIs w' zb (((1:Int):Rat))∧But [] W w'):=fun W=>refIntQ (1) W (by omega) (by omega)
 have AD:Hid (∀ W xb,RatIs W xb (((1:Int):Rat))→RatIs W rb (f)→Calls Tryz.prog 47 #[.pointer (some ⟨xb,0,none⟩),.pointer (some ⟨rb,0,none⟩)] W fun e w'=>∃ zb,e=.returned (.pointer (some ⟨zb,0,none⟩))∧RatIs w' zb (((1:Int):Rat)+f)∧But [] W w'):=fun W xb h1 h2=>refAddQ xb rb _ _ W h1 h2 ((LenU.int (by decide)).mono (by omega)) (lf.mono (by omega))
 have SG:Hid (∀ W gb,RatIs W gb (((1:Int):Rat)+f)→Calls Tryz.prog 48 #[.pointer (some ⟨gb,0,none⟩)] W fun e w'=>e=.returned (.int .i64 sg)∧But [] W w'):=fun W gb h=>refSignQ gb _ W h sg hf (lg.mono (by omega))
 have S0:=hide (And.intro (But.refl [] w) (And.intro hd hr))
 clear hd hr lf ld lg hsD hf
 go_enter Tryz.func14,Tryz.ntmps14
 go_wp2_with fail
 refine (unhide I1 _ ).mono ?_
 rintro e w1 ⟨bone,rfl,R1,B1⟩
 have S1:=hide (And.intro ((unhide S0).1.trans' B1) (And.intro ((unhide S0).2.1.but B1) (And.intro ((unhide S0).2.2.but B1) (R1))))
 clear B1 S0 R1
 go_wp2_with fail
 refine (unhide AD _ _ ((unhide S1).2.2.2) ((unhide S1).2.2.1)).mono ?_
 rintro e w2 ⟨bg,rfl,R2,B2⟩
 have S2:=hide (And.intro ((unhide S1).1.trans' B2) (And.intro ((unhide S1).2.1.but B2) (And.intro ((unhide S1).2.2.1.but B2) (And.intro ((unhide S1).2.2.2.but B2) (R2)))))
 clear B2 S1 R2
 go_wp2_with fail
 refine (unhide SG _ _ ((unhide S2).2.2.2.2)).mono ?_
 rintro e w3 ⟨rfl,B3⟩
 have S3:=hide (And.intro ((unhide S2).1.trans' B3) (And.intro ((unhide S2).2.1.but B3) (And.intro ((unhide S2).2.2.1.but B3) (And.intro ((unhide S2).2.2.2.1.but B3) ((unhide S2).2.2.2.2.but B3)))))
 clear B3 S2
 go_wp2
 exact bodyPost_ret (v:=.tuple #[.pointer none,.pointer none,.int .i64 1]) (by simp [results,Tryz.results14,go_sem]) rfl ⟨rfl,(unhide S3).1⟩
theorem refPair_errF (db rb:Nat) (D f:Rat) (ta th tb sg sD:Int) (w:World) (hd:RatIs w db D) (hr:RatIs w rb f) (ld:LenU D 2) (lf:LenU f 2) (hf:sg=(((1:Int):Rat)+f).num.sign) (hsD:sD=D.num.sign) (h1:0≤th) (h2:th<ta) (h3:ta<tb) (h4:tb≤120) (hg:0<sg) (hD:sD<0) :
  Calls Tryz.prog 14 #[.pointer (some ⟨db,0,none⟩),.int .i64 ta,.int .i64 th,.int .i64 tb,.pointer (some ⟨rb,0,none⟩)] w fun e w'=>e=.returned (.tuple #[.pointer none,.pointer none,.int .i64 1])∧But [] w w':=by
 have lg:LenU (((1:Int):Rat)+f) 5:=(LenU.int (by decide)).add lf
 have I1:Hid (∀ W,Calls Tryz.prog 36 #[.int .i64 (1)] W fun e w'=>∃ zb,e=.returned (.pointer (some ⟨zb,0,none⟩))∧RatIs w' zb (((1:Int):Rat))∧But [] W w'):=fun W=>refIntQ (1) W (by omega) (by omega)
 have AD:Hid (∀ W xb,RatIs W xb (((1:Int):Rat))→RatIs W rb (f)→Calls Tryz.prog 47 #[.pointer (some ⟨xb,0,none⟩),.pointer (some ⟨rb,0,none⟩)] W fun e w'=>∃ zb,e=.returned (.pointer (some ⟨zb,0,none⟩))∧RatIs w' zb (((1:Int):Rat)+f)∧But [] W w'):=fun W xb h1 h2=>refAddQ xb rb _ _ W h1 h2 ((LenU.int (by decide)).mono (by omega)) (lf.mono (by omega))
 have SG:Hid (∀ W gb,RatIs W gb (((1:Int):Rat)+f)→Calls Tryz.prog 48 #[.pointer (some ⟨gb,0,none⟩)] W fun e w'=>e=.returned (.int .i64 sg)∧But [] W w'):=fun W gb h=>refSignQ gb _ W h sg hf (lg.mono (by omega))
 have SD:Hid (∀ W,RatIs W db D→Calls Tryz.prog 48 #[.pointer (some ⟨db,0,none⟩)] W fun e w'=>e=.returned (.int .i64 sD)∧But [] W w'):=fun W h=>refSignQ db _ W h sD hsD (ld.mono (by omega))
 have S0:=hide (And.intro (But.refl [] w) (And.intro hd hr))
 clear hd hr lf ld lg hsD hf
 go_enter Tryz.func14,Tryz.ntmps14
 go_wp2_with fail
 refine (unhide I1 _ ).mono ?_
 rintro e w1 ⟨bone,rfl,R1,B1⟩
 have S1:=hide (And.intro ((unhide S0).1.trans' B1) (And.intro ((unhide S0).2.1.but B1) (And.intro ((unhide S0).2.2.but B1) (R1))))
 clear B1 S0 R1
 go_wp2_with fail
 refine (unhide AD _ _ ((unhide S1).2.2.2) ((unhide S1).2.2.1)).mono ?_
 rintro e w2 ⟨bg,rfl,R2,B2⟩
 have S2:=hide (And.intro ((unhide S1).1.trans' B2) (And.intro ((unhide S1).2.1.but B2) (And.intro ((unhide S1).2.2.1.but B2) (And.intro ((unhide S1).2.2.2.but B2) (R2)))))
 clear B2 S1 R2
 go_wp2_with fail
 refine (unhide SG _ _ ((unhide S2).2.2.2.2)).mono ?_
 rintro e w3 ⟨rfl,B3⟩
 have S3:=hide (And.intro ((unhide S2).1.trans' B3) (And.intro ((unhide S2).2.1.but B3) (And.intro ((unhide S2).2.2.1.but B3) (And.intro ((unhide S2).2.2.2.1.but B3) ((unhide S2).2.2.2.2.but B3)))))
 clear B3 S2
 go_wp2_with fail
 refine (unhide SD _ ((unhide S3).2.1)).mono ?_
 rintro e w4 ⟨rfl,B4⟩
 have S4:=hide (And.intro ((unhide S3).1.trans' B4) (And.intro ((unhide S3).2.1.but B4) (And.intro ((unhide S3).2.2.1.but B4) (And.intro ((unhide S3).2.2.2.1.but B4) ((unhide S3).2.2.2.2.but B4)))))
 clear B4 S3
 go_wp2
 exact bodyPost_ret (v:=.tuple #[.pointer none,.pointer none,.int .i64 1]) (by simp [results,Tryz.results14,go_sem]) rfl ⟨rfl,(unhide S4).1⟩
end Go.Proofs.YtpfnnhjnakmnoaaGreatDoor
