/- The law RuinBest: its walk, over what ea -/
import Derived.Laws.MakeOwn
import Derived.Test.YtagmkkiagjmimaaGreatDoorSHPd
namespace Go.Proofs.YtagmkkiagjmimaaGreatDoor
open Go.Proofs.Tryz
open Go.RowKit
set_option maxHeartbeats 64000000
set_option maxRecDepth 100000
set_option linter.unusedVariables false
theorem zzy (inc bits:Int) (a:Option Addr) (n c:Nat) (w:World) (h:(12<n∧n≤201)∨¬ (12<n∧n≤201)∧(230<n∨n≤230∧4<bits∧bits≤12)) :
   Calls prog 5 #[.int .i64 inc,.slice a n c,.int .i64 bits] w fun e w'=>e=.returned (.bool true)∧But [] w w':=by(
 have hx:(12<n∧n≤201)∨(230<n∧12<n∧¬ n≤201)∨(12<n∧¬ n≤201∧¬ 230<n∧bits > 4∧bits≤12)∨(¬ 12<n∧¬ 230<n∧bits > 4∧bits≤12):=by omega
 have bw:But [] w w:=But.refl _ _
 clear h
 rcases hx with ⟨h1,h2⟩|⟨h1,h2,h3⟩|⟨h1,h2,h3,h4,h5⟩|⟨h1,h2,h3,h4⟩
 all_goals(
 go_enter func5,ntmps5
 go_wp2
 go_ret
 exact⟨rfl,bw⟩))
theorem qgk (inc bits:Int) (a:Option Addr) (n c:Nat) (fs:List Rat) (z2 z:Int) (ev:Value) (f1:Rat) (w:World) (hg:n≤12∨201<n∧n≤230)
   (LI:∀ W,But [] w W→Calls prog 15 #[.slice a n c] W fun e w'=>∃ v,e=.returned v∧jl w' v fs∧But [] W w')
   (RC:∀ W v,jl W v fs→Calls prog 16 #[.int .i64 0,.int .i64 inc,v,.int .i64 0] W fun e w'=>e=.returned (.int .i64 z2)∧But [] W w')
   (PL:∀ W,But [] w W→Calls prog 18 #[.slice a n c] W fun e w'=>∃ v,e=.returned v∧aq w' v fs∧But [] W w')
   (BE:∀ W v,But [] w W→aq W v fs→Calls prog 25 #[.int .i64 inc,v,.int .i64 bits] W fun e w'=>∃ t:FZ,e=.returned (.tuple #[.agg #[.bool t.1,.int .u64 t.2.1,.int .u64 t.2.2.1,.pointer t.2.2.2],ev])∧am w' (.agg #[.bool t.1,.int .u64 t.2.1,.int .u64 t.2.2.1,.pointer t.2.2.2]) f1∧But [] W w')
   (I0:∀ W,Calls prog 19 #[.int .i64 0] W fun e w'=>∃ b,e=.returned (.pointer (some ⟨b,0,none⟩))∧zi w' b (((0:Int):Rat))∧But [] W w')
   (hbt:bits≤4∨12<bits) (hz:(z2≠0∧z=z2)∨(z2=0∧(bits<0∨12<bits)∧z=2)) (hz0:z≠0)
   (E1:∀ W v x,But [] w W→am W v f1→Calls prog 21 #[v,ev,.pointer (some ⟨x,0,none⟩),.int .i64 z] W fun e w'=>e=.returned (.bool true)∧But [] W w') :
   Calls prog 5 #[.int .i64 inc,.slice a n c,.int .i64 bits] w fun e w'=>e=.returned (.bool true)∧But [] w w':=by(
 have LIH:=af LI
 have RCH:=af RC
 have PLH:=af PL
 have BEH:=af BE
 have I0H:=af I0
 have E1H:=af E1
 clear LI RC PL BE I0 E1
 have hgg:(n≤12∧¬ 12<n∧¬ 230<n)∨(12<n∧¬ n≤201∧¬ 230<n):=by omega
 have hyy:¬ bits > 4∨(bits > 4∧¬ bits≤12):=by omega
 have hzz:((z2==0)=false∧z=z2∧(z==0)=false)∨(z2=0∧bits<0∧z=2)∨(z2=0∧¬ bits<0∧bits > 12∧z=2):=by
  rcases hz with ⟨h1,h2⟩|⟨h1,h2,h3⟩
  ·exact .inl ⟨by simpa using h1,h2,by simpa using hz0⟩
  ·by_cases h:bits<0
   ·exact .inr (.inl ⟨h1,h,h3⟩)
   ·exact .inr (.inr ⟨h1,by omega,by omega,h3⟩)
 clear hz hz0 hbt hg
 rcases hgg with ⟨k1,k2,k3⟩|⟨k1,k2,k3⟩
 all_goals(
 rcases hyy with k4|⟨k4,k5⟩
 all_goals(
 rcases hzz with ⟨q1,rfl,q2⟩|⟨rfl,q1,rfl⟩|⟨rfl,q1,q2,rfl⟩
 all_goals try (exfalso;omega)
 all_goals(
 go_enter func5,ntmps5
 go_wp2_with fail
 refine (ae LIH _ (But.refl _ _)).mono ?_
 rintro e w1 ⟨vr,rfl,hr,hb1⟩
 have R1:=af hr
 have B1:=af hb1
 clear hr hb1 LIH
 go_wp2_with fail
 refine (ae RCH _ _ (ae R1)).mono ?_
 rintro e w2 ⟨rfl,hb2⟩
 have R2:=af ((ae R1).but hb2)
 have B2:=af ((ae B1).trans' hb2)
 clear hb2 B1 R1 RCH
 go_wp2_with fail
 refine (ae PLH _ (ae B2)).mono ?_
 rintro e w3 ⟨v3,rfl,h3,hb3⟩
 have D3:=af (ae BEH _ _ ((ae B2).trans' hb3) h3)
 have R3:=af ((ae R2).but hb3)
 have B3:=af ((ae B2).trans' hb3)
 clear h3 hb3 R2 B2 BEH PLH
 go_wp2_with fail
 refine (ae D3).mono ?_
 rintro e w4 ⟨⟨s1,x1,y1,p1⟩,rfl,hf,hb4⟩
 dsimp only
 have bA:But [] w4 (w4.alloc (.cells #[.bool s1,.int .u64 x1,.int .u64 y1,.pointer p1] 27)):=(But.refl _ _).alloc _
 have K4:Hid (P4 (w4.alloc (.cells #[.bool s1,.int .u64 x1,.int .u64 y1,.pointer p1] 27)) w4.heap.size s1 x1 y1 p1):=⟨by simp,by simp,by simp,by simp⟩
 have R4:=af ((ae R3).but (hb4.trans' bA))
 have F4:=af (hf.but bA)
 have B4:=af ((ae B3).trans' (hb4.trans' bA))
 clear hf hb4 bA B3 R3 D3
 go_wp2_with fail
 generalize w4.heap.size=g13 at *
 generalize w4.alloc (.cells #[.bool s1,.int .u64 x1,.int .u64 y1,.pointer p1] 27)=V4 at *
 refine (ae I0H _).mono ?_
 rintro e w5 ⟨b5,rfl,h5,hb5⟩
 have R5:=af ((ae R4).but hb5)
 have F5:=af ((ae F4).but hb5)
 have K5:=af ((ae K4).but hb5 (by simp))
 have B5:=af ((ae B4).trans' hb5)
 clear h5 hb5 B4 R4 F4 K4
 obtain⟨m0,m1,m2,m3⟩:=ae K5
 have O5:=af (ae E1H _ _ b5 (ae B5) (ae F5))
 clear R5 F5 K5 E1H I0H
 go_wp2_with fail
 refine (ae O5).mono ?_
 rintro e w6 ⟨rfl,hb6⟩
 have B6:=af ((ae B5).trans' hb6)
 clear hb6 B5 O5 m0 m1 m2 m3
 go_wp2
 go_ret
 exact⟨rfl,ae B6⟩))))
theorem qff (bits un:Nat) (hbt:bits≤4) (hun:un=2^bits):wrap64 (64*2^bits)=64*(un:Int)∧wrap64 (2^bits)=(un:Int):=by(
 subst hun
 have:bits=0∨bits=1∨bits=2∨bits=3∨bits=4:=by omega
 rcases this with rfl|rfl|rfl|rfl|rfl <;> constructor <;> (unfold wrap64;omega))
theorem qeb (inc:Int) (bits un:Nat) (a:Option Addr) (n c:Nat) (fs:List Rat) (f1:Rat) (S:Nat→Bool) (w:World) (hg:n≤12∨201<n∧n≤230)
   (LI:∀ W,But [] w W→Calls prog 15 #[.slice a n c] W fun e w'=>∃ v,e=.returned v∧jl w' v fs∧But [] W w')
   (RC:∀ W v,jl W v fs→Calls prog 16 #[.int .i64 0,.int .i64 inc,v,.int .i64 0] W fun e w'=>e=.returned (.int .i64 0)∧But [] W w')
   (PL:∀ W,But [] w W→Calls prog 18 #[.slice a n c] W fun e w'=>∃ v,e=.returned v∧aq w' v fs∧But [] W w')
   (BE:∀ W v,But [] w W→aq W v fs→Calls prog 25 #[.int .i64 inc,v,.int .i64 (bits:Int)] W fun e w'=>∃ t:FZ,e=.returned (.tuple #[.agg #[.bool t.1,.int .u64 t.2.1,.int .u64 t.2.2.1,.pointer t.2.2.2],.nilIface])∧am w' (.agg #[.bool t.1,.int .u64 t.2.1,.int .u64 t.2.2.1,.pointer t.2.2.2]) f1∧But [] W w')
   (I0:∀ W,Calls prog 19 #[.int .i64 0] W fun e w'=>∃ b,e=.returned (.pointer (some ⟨b,0,none⟩))∧zi w' b (((0:Int):Rat))∧But [] W w')
   (hbt:bits≤4) (hun:un=2^bits)
   (I1:∀ W,Calls prog 19 #[.int .i64 1] W fun e w'=>∃ b,e=.returned (.pointer (some ⟨b,0,none⟩))∧zi w' b (((1:Int):Rat))∧But [] W w')
   (I2:∀ W,Calls prog 19 #[.int .i64 2] W fun e w'=>∃ b,e=.returned (.pointer (some ⟨b,0,none⟩))∧zi w' b (((2:Int):Rat))∧But [] W w')
   (PO:∀ W x,zi W x (((2:Int):Rat))→Calls prog 27 #[.pointer (some ⟨x,0,none⟩),.int .i64 (bits:Int)] W fun e w'=>∃ b,e=.returned (.pointer (some ⟨b,0,none⟩))∧zi w' b (((un:Nat):Int):Rat)∧But [] W w')
   (DV:∀ W x y,zi W x (((1:Int):Rat))→zi W y (((un:Nat):Int):Rat)→Calls prog 26 #[.pointer (some ⟨x,0,none⟩),.pointer (some ⟨y,0,none⟩)] W fun e w'=>∃ b,e=.returned (.pointer (some ⟨b,0,none⟩))∧zi w' b ((((un:Nat):Int):Rat)⁻¹)∧But [] W w')
   (IK:∀ W (k:Nat),k≤64*un→Calls prog 19 #[.int .i64 (k:Int)] W fun e w'=>∃ b,e=.returned (.pointer (some ⟨b,0,none⟩))∧zi w' b ((((k:Nat):Int):Rat))∧But [] W w')
   (MU:∀ W (k:Nat) x y,k≤64*un→zi W x (((k:Nat):Int):Rat)→zi W y ((((un:Nat):Int):Rat)⁻¹)→Calls prog 28 #[.pointer (some ⟨x,0,none⟩),.pointer (some ⟨y,0,none⟩)] W fun e w'=>∃ b,e=.returned (.pointer (some ⟨b,0,none⟩))∧zi w' b ((((k:Nat):Int):Rat)*(((un:Nat):Int):Rat)⁻¹)∧But [] W w')
   (RS:∀ W (k:Nat) v x,k≤64*un→jl W v fs→zi W x ((((k:Nat):Int):Rat)*(((un:Nat):Int):Rat)⁻¹)→Calls prog 24 #[.int .i64 inc,v,.pointer (some ⟨x,0,none⟩)] W fun e w'=>e=.returned (.bool (S k))∧But [] W w')
   (FK:∀ k,un<k→k≤64*un→S k=true→(∀ j,k<j→j≤64*un→S j=false)→f1=(((k:Nat):Int):Rat)*(((un:Nat):Int):Rat)⁻¹)
   (F1:(∀ j,un<j→j≤64*un→S j=false)→f1=((1:Int):Rat))
   (E1:∀ W v x,But [] w W→am W v f1→zi W x f1→Calls prog 21 #[v,.nilIface,.pointer (some ⟨x,0,none⟩),.int .i64 0] W fun e w'=>e=.returned (.bool true)∧But [] W w') :
   Calls prog 5 #[.int .i64 inc,.slice a n c,.int .i64 (bits:Int)] w fun e w'=>e=.returned (.bool true)∧But [] w w':=by(
 have LIH:=af LI
 have RCH:=af RC
 have PLH:=af PL
 have BEH:=af BE
 have I0H:=af I0
 have I1H:=af I1
 have I2H:=af I2
 have POH:=af PO
 have DVH:=af DV
 have IKH:=af IK
 have MUH:=af MU
 have RSH:=af RS
 have FKH:=af FK
 have F1H:=af F1
 have E1H:=af E1
 clear LI RC PL BE I0 I1 I2 PO DV IK MU RS FK F1 E1
 have hgg:(n≤12∧¬ 12<n∧¬ 230<n)∨(12<n∧¬ n≤201∧¬ 230<n):=by omega
 have k4:¬ (bits:Int) > 4:=by omega
 have k5:¬ (bits:Int)<0:=by omega
 have k6:¬ (bits:Int) > 12:=by omega
 have u1:1≤un:=by rw[hun];exact Nat.one_le_two_pow
 have u2:un≤16:=by rw[hun];exact Nat.pow_le_pow_right (n:=2) (by omega) hbt
 have SH:=qff bits un hbt hun
 obtain⟨sh1,sh2⟩:=SH
 clear hg hun
 rcases hgg with ⟨k1,k2,k3⟩|⟨k1,k2,k3⟩
 all_goals(
 go_enter func5,ntmps5
 go_wp2_with fail
 refine (ae LIH _ (But.refl _ _)).mono ?_
 rintro e w1 ⟨vr,rfl,hr,hb1⟩
 have R1:=af hr
 have B1:=af hb1
 clear hr hb1 LIH
 go_wp2_with fail
 refine (ae RCH _ _ (ae R1)).mono ?_
 rintro e w2 ⟨rfl,hb2⟩
 have R2:=af ((ae R1).but hb2)
 have B2:=af ((ae B1).trans' hb2)
 clear hb2 B1 R1 RCH
 go_wp2_with fail
 refine (ae PLH _ (ae B2)).mono ?_
 rintro e w3 ⟨v3,rfl,h3,hb3⟩
 have D3:=af (ae BEH _ _ ((ae B2).trans' hb3) h3)
 have R3:=af ((ae R2).but hb3)
 have B3:=af ((ae B2).trans' hb3)
 clear h3 hb3 R2 B2 BEH PLH
 go_wp2_with fail
 refine (ae D3).mono ?_
 rintro e w4 ⟨⟨s1,x1,y1,p1⟩,rfl,hf,hb4⟩
 dsimp only
 have bA:But [] w4 (w4.alloc (.cells #[.bool s1,.int .u64 x1,.int .u64 y1,.pointer p1] 27)):=(But.refl _ _).alloc _
 have K4:Hid (P4 (w4.alloc (.cells #[.bool s1,.int .u64 x1,.int .u64 y1,.pointer p1] 27)) w4.heap.size s1 x1 y1 p1):=⟨by simp,by simp,by simp,by simp⟩
 have R4:=af ((ae R3).but (hb4.trans' bA))
 have F4:=af (hf.but bA)
 have B4:=af ((ae B3).trans' (hb4.trans' bA))
 clear hf hb4 bA B3 R3 D3
 go_wp2_with fail
 generalize w4.heap.size=g13 at *
 generalize w4.alloc (.cells #[.bool s1,.int .u64 x1,.int .u64 y1,.pointer p1] 27)=V4 at *
 refine (ae I0H _).mono ?_
 rintro e w5 ⟨b5,rfl,h5,hb5⟩
 have R5:=af ((ae R4).but hb5)
 have F5:=af ((ae F4).but hb5)
 have K5:=af ((ae K4).but hb5 (by simp))
 have B5:=af ((ae B4).trans' hb5)
 clear h5 hb5 B4 R4 F4 K4
 go_wp2_with fail
 refine (ae I1H _).mono ?_
 rintro e w6 ⟨b6,rfl,h6,hb6⟩
 have Q6:=af h6
 have C6:=af hb6
 clear h6 hb6
 go_wp2_with fail
 refine (ae I2H _).mono ?_
 rintro e w7 ⟨b7,rfl,h7,hb7⟩
 have Q7:=af (And.intro ((ae Q6).but hb7) h7)
 have C7:=af ((ae C6).trans' hb7)
 clear h7 hb7 Q6 C6 I2H
 go_wp2_with fail
 refine (ae POH _ _ (ae Q7).2).mono ?_
 rintro e w8 ⟨b8,rfl,h8,hb8⟩
 have D8:=af (ae DVH _ _ _ ((ae Q7).1.but hb8) h8)
 have C8:=af ((ae C7).trans' hb8)
 clear h8 hb8 Q7 C7 POH DVH
 go_wp2_with fail
 refine (ae D8).mono ?_
 rintro e w9 ⟨b9,rfl,h9,hb9⟩
 have Q9:=af h9
 have C9:=af ((ae C8).trans' hb9)
 clear h9 hb9 C8 D8
 go_wp2_with fail
 refine (ae I1H _).mono ?_
 rintro e wa ⟨ba,rfl,ha,hba⟩
 have QA:=af (And.intro ((ae Q9).but hba) ha)
 have CA:=af ((ae C9).trans' hba)
 have S0:Hid ((zi wa b9 ((((un:Nat):Int):Rat)⁻¹)∧zi wa ba (((1:Int):Rat)))∧jl wa vr fs∧am wa (.agg #[.bool s1,.int .u64 x1,.int .u64 y1,.pointer p1]) f1∧P4 wa g13 s1 x1 y1 p1∧But [] w wa):=⟨ae QA,(ae R5).but (ae CA),(ae F5).but (ae CA),(ae K5).but (ae CA) (by simp),(ae B5).trans' (ae CA)⟩
 clear ha hba Q9 C9 I1H QA CA R5 F5 K5 B5 I0H
 go_wp2
 rw[sh1]
 go_loopw [11,13] (fun xv i wr=>∃ k:Nat,un≤k∧k≤64*un∧i=.int .i64 (k:Int)∧xv=.pointer (some ⟨ba,0,none⟩)∧Hid ((∀ j,k<j→j≤64*un→S j=false)∧(zi wr b9 ((((un:Nat):Int):Rat)⁻¹)∧zi wr ba (((1:Int):Rat)))∧jl wr vr fs∧am wr (.agg #[.bool s1,.int .u64 x1,.int .u64 y1,.pointer p1]) f1∧P4 wr g13 s1 x1 y1 p1∧But [] w wr)) (fun _ i _=>(intOf i).toNat)
 case atStart=>exact⟨64*un,by omega,Nat.le_refl _,by go_num,rfl,fun j h1 h2=>absurd h1 (by omega),ae S0⟩
 case round =>(
 obtain⟨k,hk1,hk2,rfl,rfl,HI⟩:=hrel
 rename World=>wr
 clear S0
 by_cases hlt:un<k
 ·(
 have hgt:(k:Int) > (un:Int):=by omega
 go_wp2_with fail
 refine (ae IKH _ k hk2).mono ?_
 rintro e x1' ⟨c1,rfl,g1,hc1⟩
 have M1:=af (ae MUH _ k _ _ hk2 g1 ((ae HI).2.1.1.but hc1))
 have C1:=af hc1
 clear g1 hc1
 go_wp2_with fail
 refine (ae M1).mono ?_
 rintro e x2' ⟨c2,rfl,g2,hc2⟩
 have C2:=af ((ae C1).trans' hc2)
 have RS2:=af (ae RSH _ k _ _ hk2 ((ae HI).2.2.1.but (ae C2)) g2)
 have G2:=af g2
 clear g2 hc2 C1 M1
 go_wp2_with fail
 refine (ae RS2).mono ?_
 rintro e x3' ⟨rfl,hc3⟩
 have C3:=af ((ae C2).trans' hc3)
 have G3:=af ((ae G2).but hc3)
 clear hc3 C2 G2 RS2
 cases hS:S k with
 | true =>
  have ef:=ae FKH k hlt hk2 hS (ae HI).1
  have K8:=af ((ae HI).2.2.2.2.1.but (ae C3) (by simp))
  have B8:=af ((ae HI).2.2.2.2.2.trans' (ae C3))
  have O8:=af (ae E1H _ _ c2 (ae B8) ((ae HI).2.2.2.1.but (ae C3)) (by rw[ef];exact ae G3))
  clear ef HI C3 G3 hS FKH F1H E1H IKH MUH RSH
  obtain⟨m0,m1,m2,m3⟩:=ae K8
  go_wp2_with fail
  refine (ae O8).mono ?_
  rintro e we ⟨rfl,hbe⟩
  have Be:=af ((ae B8).trans' hbe)
  clear hbe B8 O8 m0 m1 m2 m3 K8
  go_wp2
  go_ret
  exact⟨rfl,ae Be⟩
 | false =>
  have NX:Hid ((∀ j,k-1<j→j≤64*un→S j=false)∧(zi x3' b9 ((((un:Nat):Int):Rat)⁻¹)∧zi x3' ba (((1:Int):Rat)))∧jl x3' vr fs∧am x3' (.agg #[.bool s1,.int .u64 x1,.int .u64 y1,.pointer p1]) f1∧P4 x3' g13 s1 x1 y1 p1∧But [] w x3'):=⟨fun j h1 h2=>by
   by_cases e:j=k
   ·rw[e];exact hS
   ·exact (ae HI).1 j (by omega) h2,⟨(ae HI).2.1.1.but (ae C3),(ae HI).2.1.2.but (ae C3)⟩,(ae HI).2.2.1.but (ae C3),(ae HI).2.2.2.1.but (ae C3),(ae HI).2.2.2.2.1.but (ae C3) (by simp),(ae HI).2.2.2.2.2.trans' (ae C3)⟩
  clear HI C3 G3 hS
  go_wp2
  exact⟨⟨k-1,by omega,by omega,by go_num,rfl,ae NX⟩,by simp[intOf];omega⟩)
 ·(
 obtain rfl:k=un:=by omega
 have ef:=ae F1H (ae HI).1
 have K8:=af (ae HI).2.2.2.2.1
 have B8:=af (ae HI).2.2.2.2.2
 have O8:=af (ae E1H _ _ ba (ae B8) (ae HI).2.2.2.1 (by rw[ef];exact (ae HI).2.1.2))
 clear ef HI FKH F1H E1H IKH MUH RSH
 obtain⟨m0,m1,m2,m3⟩:=ae K8
 go_wp2_with fail
 refine (ae O8).mono ?_
 rintro e we ⟨rfl,hbe⟩
 have Be:=af ((ae B8).trans' hbe)
 clear hbe B8 O8 m0 m1 m2 m3 K8
 go_wp2
 go_ret
 exact⟨rfl,ae Be⟩))))
end Go.Proofs.YtagmkkiagjmimaaGreatDoor
