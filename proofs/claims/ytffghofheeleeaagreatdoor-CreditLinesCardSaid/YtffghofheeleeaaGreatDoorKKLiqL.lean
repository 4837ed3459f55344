/- The law CreditLines: its walk, over what -/
import Derived.Test.YtffghofheeleeaaGreatDoorKKLeqL
import Derived.Test.YtffghofheeleeaaGreatDoorKKLhqL
namespace Go.Proofs.YtffghofheeleeaaGreatDoor
open Go.Proofs.Tryz
open Go.RowKit
set_option maxHeartbeats 64000000
set_option maxRecDepth 100000
set_option linter.unusedVariables false
theorem qdq (a1 a2 a3:Option Addr) (n c1 n2 c2 n3 c3:Nat) (yr u4 v4 u5 v5:Int) (w:World) (h:60<n∨n≤60∧(n2<n∨n≤n2∧n3<n)) :
  Calls prog 4 #[.slice a1 n c1,.slice a2 n2 c2,.slice a3 n3 c3,.int .i64 yr,.agg #[.int .i64 u4,.int .i64 v4],.agg #[.int .i64 u5,.int .i64 v5]] w fun e w'=>e=.returned (.bool true)∧But [] w w':=by
 rcases h with h|⟨h0,h|⟨h1,h⟩⟩
 ·go_enter func4,ntmps4
  go_wp2
  go_ret
  exact⟨rfl,((But.refl _ _).alloc _).alloc _⟩
 ·have h2:¬ 60<n:=by omega
  go_enter func4,ntmps4
  go_wp2
  go_ret
  exact⟨rfl,((But.refl _ _).alloc _).alloc _⟩
 ·have h2:¬ 60<n:=by omega
  have h3:¬ n2<n:=by omega
  go_enter func4,ntmps4
  go_wp2
  go_ret
  exact⟨rfl,((But.refl _ _).alloc _).alloc _⟩
theorem zup (a1 a2 a3:Option Addr) (n c1 n2 c2 n3 c3:Nat) (yr u4 v4 u5 v5:Int) (p1 p2 p3:List (Int × Int)) (ks:List Kd) (z:Int) (hz:z=0∨(z==0)=false) (ev:Value) (lb lo la base own:Rat) (R1:Nat→Bool) (X1 Y1:Nat→Int) (R2:Nat→Bool) (X2 Y2:Nat→Int) (R3:Nat→Bool) (X3 Y3:Nat→Int) (s4:Bool) (x4 y4:Int) (q4:Option Addr) (s5:Bool) (x5 y5:Int) (q5:Option Addr) (w:World)
  (hn:n≤60) (hn2:n≤n2) (hn3:n≤n3) (hN:n=ks.length) (h1:zee w (.slice a1 n c1) p1) (h2:zee w (.slice a2 n2 c2) p2) (h3:zee w (.slice a3 n3 c3) p3)
  (V1:∀ i,i<n→∀ W,Calls prog 7 #[.agg #[.int .i64 (p1[i]?.getD (0,0)).1,.int .i64 (p1[i]?.getD (0,0)).2]] W fun e w'=>e=.returned (.agg #[.bool (R1 i),.int .u64 (X1 i),.int .u64 (Y1 i),.pointer none])∧But [] W w')
  (O1:∀ i,i<n→∀ W,Calls prog 12 #[.agg #[.int .i64 (p1[i]?.getD (0,0)).1,.int .i64 (p1[i]?.getD (0,0)).2]] W fun e w'=>∃ b,e=.returned (.pointer (some ⟨b,0,none⟩))∧za w' b (ze ks i).ch∧But [] W w')
  (V2:∀ i,i<n→∀ W,Calls prog 7 #[.agg #[.int .i64 (p2[i]?.getD (0,0)).1,.int .i64 (p2[i]?.getD (0,0)).2]] W fun e w'=>e=.returned (.agg #[.bool (R2 i),.int .u64 (X2 i),.int .u64 (Y2 i),.pointer none])∧But [] W w')
  (O2:∀ i,i<n→∀ W,Calls prog 12 #[.agg #[.int .i64 (p2[i]?.getD (0,0)).1,.int .i64 (p2[i]?.getD (0,0)).2]] W fun e w'=>∃ b,e=.returned (.pointer (some ⟨b,0,none⟩))∧za w' b (ze ks i).me∧But [] W w')
  (V3:∀ i,i<n→∀ W,Calls prog 7 #[.agg #[.int .i64 (p3[i]?.getD (0,0)).1,.int .i64 (p3[i]?.getD (0,0)).2]] W fun e w'=>e=.returned (.agg #[.bool (R3 i),.int .u64 (X3 i),.int .u64 (Y3 i),.pointer none])∧But [] W w')
  (O3:∀ i,i<n→∀ W,Calls prog 12 #[.agg #[.int .i64 (p3[i]?.getD (0,0)).1,.int .i64 (p3[i]?.getD (0,0)).2]] W fun e w'=>∃ b,e=.returned (.pointer (some ⟨b,0,none⟩))∧za w' b (ze ks i).sp∧But [] W w')
  (KA:∀ B W a c,W.ownsRow B 45 12 (.slice a n c) n ((List.range n).flatMap fun i=>[.bool (R1 i),.int .u64 (X1 i),.int .u64 (Y1 i),.pointer none,.bool (R2 i),.int .u64 (X2 i),.int .u64 (Y2 i),.pointer none,.bool (R3 i),.int .u64 (X3 i),.int .u64 (Y3 i),.pointer none])→nu W (.slice a n c) ks)
  (C4:∀ W,Calls prog 7 #[.agg #[.int .i64 u4,.int .i64 v4]] W fun e w'=>e=.returned (.agg #[.bool s4,.int .u64 x4,.int .u64 y4,.pointer q4])∧But [] W w')
  (C5:∀ W,Calls prog 7 #[.agg #[.int .i64 u5,.int .i64 v5]] W fun e w'=>e=.returned (.agg #[.bool s5,.int .u64 x5,.int .u64 y5,.pointer q5])∧But [] W w')
  (D4:∀ W,Calls prog 12 #[.agg #[.int .i64 u4,.int .i64 v4]] W fun e w'=>∃ b,e=.returned (.pointer (some ⟨b,0,none⟩))∧za w' b base∧But [] W w')
  (D5:∀ W,Calls prog 12 #[.agg #[.int .i64 u5,.int .i64 v5]] W fun e w'=>∃ b,e=.returned (.pointer (some ⟨b,0,none⟩))∧za w' b own∧But [] W w')
  (KC:∀ W v,zmm W v ks→Calls prog 13 #[v,.int .i64 yr] W fun e w'=>e=.returned (.int .i64 z)∧But [] W w')
  (LI:∀ W a c,nu W (.slice a n c) ks→Calls prog 14 #[.slice a n c,.int .i64 yr] W fun e w'=>∃ v,e=.returned (.tuple #[v,ev])∧zhl lb lo w' v∧But [] W w')
  (AM:∀ W a c,nu W (.slice a n c) ks→Calls prog 15 #[.slice a n c,.int .i64 yr,.agg #[.bool s4,.int .u64 x4,.int .u64 y4,.pointer q4,.bool s5,.int .u64 x5,.int .u64 y5,.pointer q5]] W fun e w'=>∃ t:FZ,e=.returned (.tuple #[.agg #[.bool t.1,.int .u64 t.2.1,.int .u64 t.2.2.1,.pointer t.2.2.2],ev])∧aq w' (.agg #[.bool t.1,.int .u64 t.2.1,.int .u64 t.2.2.1,.pointer t.2.2.2]) la∧But [] W w')
  (IN:∀ W,Calls prog 16 #[.int .i64 0] W fun e w'=>∃ b,e=.returned (.pointer (some ⟨b,0,none⟩))∧za w' b (((0:Int):Rat))∧But [] W w')
  (RL:z=0→∀ W v,zmm W v ks→Calls prog 17 #[v,.int .i64 yr] W fun e w'=>∃ b1 b2,e=.returned (.tuple #[.pointer (some ⟨b1,0,none⟩),.pointer (some ⟨b2,0,none⟩)])∧za w' b1 lb∧rz w' b2 lo∧But [] W w')
  (RA:z=0→∀ W v x y,zmm W v ks→za W x base→za W y own→Calls prog 18 #[v,.int .i64 yr,.pointer (some ⟨x,0,none⟩),.pointer (some ⟨y,0,none⟩)] W fun e w'=>∃ b,e=.returned (.pointer (some ⟨b,0,none⟩))∧za w' b la∧But [] W w')
  (E1:∀ W v x,But [] w W→aq W v lb→(z=0→za W x lb)→Calls prog 19 #[v,ev,.pointer (some ⟨x,0,none⟩),.int .i64 z] W fun e w'=>e=.returned (.bool true)∧But [] W w')
  (E2:∀ W v x,But [] w W→aq W v lo→(z=0→rz W x lo)→Calls prog 19 #[v,ev,.pointer (some ⟨x,0,none⟩),.int .i64 z] W fun e w'=>e=.returned (.bool true)∧But [] W w')
  (E3:∀ W v x,But [] w W→aq W v la→(z=0→za W x la)→Calls prog 19 #[v,ev,.pointer (some ⟨x,0,none⟩),.int .i64 z] W fun e w'=>e=.returned (.bool true)∧But [] W w') :
  Calls prog 4 #[.slice a1 n c1,.slice a2 n2 c2,.slice a3 n3 c3,.int .i64 yr,.agg #[.int .i64 u4,.int .i64 v4],.agg #[.int .i64 u5,.int .i64 v5]] w fun e w'=>e=.returned (.bool true)∧But [] w w':=by
 have Q1:=af (fun W (h:But [] w W) i hi=>zqx (h1.but h) i hi)
 have Q2:=af (fun W (h:But [] w W) i hi=>zqx (h2.but h) i hi)
 have Q3:=af (fun W (h:But [] w W) i hi=>zqx (h3.but h) i hi)
 have V1H:=af V1
 have V2H:=af V2
 have V3H:=af V3
 have O1H:=af O1
 have O2H:=af O2
 have O3H:=af O3
 have KAH:=af KA
 have C4H:=af C4
 have C5H:=af C5
 have D4H:=af D4
 have D5H:=af D5
 have KCH:=af KC
 have LIH:=af LI
 have AMH:=af AM
 have INH:=af IN
 have RLH:=af RL
 have RAH:=af RA
 have E1H:=af E1
 have E2H:=af E2
 have E3H:=af E3
 have HN:=af hN
 have HZ:=af hz
 clear V1 V2 V3 O1 O2 O3 KA C4 C5 D4 D5 KC LI AM IN RL RA E1 E2 E3 h1 h2 h3 hN hz
 obtain⟨W1,hW1⟩:∃ W1,W1=(w.alloc (.cells #[.int .i64 u4,.int .i64 v4] 23)).alloc (.cells #[.int .i64 u5,.int .i64 v5] 23):=⟨_,rfl⟩
 have BW1:Hid (But [] w W1):=by rw[hW1];exact ((But.refl _ _).alloc _).alloc _
 have CW1:Hid (W1.cell? ⟨w.heap.size,0,none⟩=some (.int .i64 u4)∧W1.cell? ⟨w.heap.size,0+1,none⟩=some (.int .i64 v4)∧W1.cell? ⟨w.heap.size+1,0,none⟩=some (.int .i64 u5)∧W1.cell? ⟨w.heap.size+1,0+1,none⟩=some (.int .i64 v5)):=by
  have e1:w.heap.size+1=(w.alloc (.cells #[.int .i64 u4,.int .i64 v4] 23)).heap.size:=by simp
  have b2:But [] (w.alloc (.cells #[.int .i64 u4,.int .i64 v4] 23)) W1:=by rw[hW1];exact (But.refl _ _).alloc _
  refine⟨b2.ag (by rw[World.cell?_alloc_new];rfl) (by simp),b2.ag (by rw[World.cell?_alloc_new];rfl) (by simp),?_,?_⟩
  ·rw[hW1,e1,World.cell?_alloc_new];rfl
  ·rw[hW1,e1,World.cell?_alloc_new];rfl
 have HW1:=af hW1
 clear hW1
 obtain⟨G,hG⟩:∃ G:Nat→List Value,G=fun i=>[.bool (R1 i),.int .u64 (X1 i),.int .u64 (Y1 i),.pointer none,.bool (R2 i),.int .u64 (X2 i),.int .u64 (Y2 i),.pointer none,.bool (R3 i),.int .u64 (X3 i),.int .u64 (Y3 i),.pointer none]:=⟨_,rfl⟩
 have GF:Hid (∀ i,∃ (s:Bool) (x:Int),(G i)[0]? = some (.bool s)∧(G i)[1]? = some (.int .u64 x)∧(G i).length=12):=by
  intro i
  rw[hG]
  exact⟨_,_,rfl,rfl,rfl⟩
 rw[← hG] at KAH
 have HG:=af hG
 clear hG
 go_enter func4,ntmps4
 go_wp2
 go_loopw [14,15,16] (fun x y iv wr=>∃ k:Nat,k≤n∧iv=.int .i64 (k:Int)∧Hid (zny G ks W1 k k x y wr)) (fun _ _ iv _=>n-(intOf iv).toNat)
 case atStart =>
  refine⟨0,Nat.zero_le _,rfl,?_⟩
  rw[← ae HW1]
  exact zny.start _ _ _
 case round =>
  obtain⟨k,hk,rfl,HI⟩:=hrel
  rename World=>wr
  have bw:Hid (But [] w wr):=(ae BW1).trans' (ae HI).but
  by_cases hlt:k<n
  ·obtain⟨b1,o1,rfl,ca1,cb1⟩:=ae Q1 w (But.refl _ _) k hlt
   obtain⟨b2,o2,rfl,ca2,cb2⟩:=ae Q2 w (But.refl _ _) k (by omega)
   obtain⟨b3,o3,rfl,ca3,cb3⟩:=ae Q3 w (But.refl _ _) k (by omega)
   have CC:=af (And.intro (And.intro ca1 cb1) (And.intro (And.intro ca2 cb2) (And.intro ca3 cb3)))
   have PF1:=af (ae V1H k hlt)
   have PF2:=af (ae V2H k hlt)
   have PF3:=af (ae V3H k hlt)
   have PO1:=af (ae O1H k hlt)
   have PO2:=af (ae O2H k hlt)
   have PO3:=af (ae O3H k hlt)
   have eG:Hid (G k=[.bool (R1 k),.int .u64 (X1 k),.int .u64 (Y1 k),.pointer none,.bool (R2 k),.int .u64 (X2 k),.int .u64 (Y2 k),.pointer none,.bool (R3 k),.int .u64 (X3 k),.int .u64 (Y3 k),.pointer none]):=by show G k=_;rw[ae HG]
   clear ca1 cb1 ca2 cb2 ca3 cb3 V1H V2H V3H O1H O2H O3H Q1 Q2 Q3 KAH C4H C5H D4H D5H KCH LIH AMH INH RLH RAH E1H E2H E3H HN HZ HW1 CW1 HG
   go_wp2
   refine ztp 9 _ _ wr u14 k b1 o1 n c1 _ _ b2 o2 n2 c2 _ _ b3 o3 n3 c3 _ _ (R1 k) (X1 k) (Y1 k) none (R2 k) (X2 k) (Y2 k) none (R3 k) (X3 k) (Y3 k) none (fun v' w'=>zny G ks W1 (k+1) k v' u15 w') (by simp) (by simp[Act.eval]) (by simp[Act.eval]) (by simp[Act.eval]) (by simp[Act.eval]) (by simp[Act.eval]) hlt ((ae bw).ag (ae CC).1.1 (by simp)) ((ae bw).ag (ae CC).1.2 (by simp)) (by omega) ((ae bw).ag (ae CC).2.1.1 (by simp)) ((ae bw).ag (ae CC).2.1.2 (by simp)) (by omega) ((ae bw).ag (ae CC).2.2.1 (by simp)) ((ae bw).ag (ae CC).2.2.2 (by simp)) (ae PF1) (ae PF2) (ae PF3) (fun W g hb hc=>zwu (ae HI) (ae GF) W hb g _ _ _ _ _ _ _ _ _ _ _ _ (ae eG) hc (by omega)) ?_
   intro gb va w1 hI1
   simp only[bk,List.foldl_cons,List.foldl_nil,Act.put,List.setIfInBounds_toArray,List.set_cons_zero,List.set_cons_succ]
   have HI1:=af hI1
   have bw1:Hid (But [] w w1):=(ae BW1).trans' hI1.but
   clear hI1 HI bw PF1 PF2 PF3 eG GF
   go_wp2
   refine zrt 10 _ _ w1 u15 k b1 o1 n c1 _ _ b2 o2 n2 c2 _ _ b3 o3 n3 c3 _ _ (ze ks k).ch (ze ks k).me (ze ks k).sp (fun v' w'=>zny G ks W1 (k+1) (k+1) va v' w') (by simp) (by simp[Act.eval]) (by simp[Act.eval]) (by simp[Act.eval]) (by simp[Act.eval]) (by simp[Act.eval]) hlt ((ae bw1).ag (ae CC).1.1 (by simp)) ((ae bw1).ag (ae CC).1.2 (by simp)) (by omega) ((ae bw1).ag (ae CC).2.1.1 (by simp)) ((ae bw1).ag (ae CC).2.1.2 (by simp)) (by omega) ((ae bw1).ag (ae CC).2.2.1 (by simp)) ((ae bw1).ag (ae CC).2.2.2 (by simp)) (ae PO1) (ae PO2) (ae PO3) (fun W t hb hc=>zwt (ae HI1) W hb t hc (by omega)) ?_
   intro x y z' gb2 vb w2 hI2
   simp only[bk,List.foldl_cons,List.foldl_nil,Act.put,List.setIfInBounds_toArray,List.set_cons_zero,List.set_cons_succ]
   have HI2:=af hI2
   clear hI2 HI1 bw1 CC PO1 PO2 PO3
   go_wp2
   exact⟨⟨k+1,by omega,by go_num,ae HI2⟩,by simp[intOf];omega⟩
  ·obtain rfl:k=n:=by omega
   obtain⟨a',c',rfl⟩:=ownsRow_form (ae HI).kinds
   have KI:=af (ae KAH _ _ _ _ (ae HI).kinds)
   have RK:Hid (zmm wr u15 ks):=by
    obtain⟨us,hu⟩:=(ae HI).refs
    rw[ae HN] at hu
    exact hu.rk
   have HB:=af bw
   have CW:Hid (wr.cell? ⟨w.heap.size,0,none⟩=some (.int .i64 u4)∧wr.cell? ⟨w.heap.size,0+1,none⟩=some (.int .i64 v4)∧wr.cell? ⟨w.heap.size+1,0,none⟩=some (.int .i64 u5)∧wr.cell? ⟨w.heap.size+1,0+1,none⟩=some (.int .i64 v5)):=by
    obtain⟨k1,k2,k3,k4⟩:=ae CW1
    have hb:=(ae HI).but
    exact⟨hb.ag k1 (by simp),hb.ag k2 (by simp),hb.ag k3 (by simp),hb.ag k4 (by simp)⟩
   generalize w.heap.size+1=g11 at *
   generalize w.heap.size=g10 at *
   clear V1H V2H V3H O1H O2H O3H Q1 Q2 Q3 KAH HI HW1 CW1 HG GF bw BW1 hn2 hn3
   go_wp2_with fail
   refine (ae KCH _ _ (ae RK)).mono ?_
   rintro e2 w2 ⟨rfl,hb2⟩
   have KI2:=af ((ae KI).but hb2)
   have RK2:=af ((ae RK).but hb2)
   have HB2:=af ((ae HB).trans' hb2)
   have CW2:=af hb2
   clear hb2 KI RK HB KCH
   go_wp2_with fail
   refine (ae LIH _ _ _ (ae KI2)).mono ?_
   rintro e3 w3 ⟨v3,rfl,⟨s1,x1,y1,q1,s2,x2,y2,q2,rfl,h1,h2⟩,hb3⟩
   have bA3:But [] w3 (w3.alloc (.cells #[.bool s1,.int .u64 x1,.int .u64 y1,.pointer q1,.bool s2,.int .u64 x2,.int .u64 y2,.pointer q2] 50)):=(But.refl _ _).alloc _
   have bs3:=hb3.trans' bA3
   have HB3:=af ((ae HB2).trans' bs3)
   have KI3:=af ((ae KI2).but bs3)
   have RK3:=af ((ae RK2).but bs3)
   have CW3:=af ((ae CW2).trans' bs3)
   have X18:Hid (xg (w3.alloc (.cells #[.bool s1,.int .u64 x1,.int .u64 y1,.pointer q1,.bool s2,.int .u64 x2,.int .u64 y2,.pointer q2] 50)) w3.heap.size [.bool s1,.int .u64 x1,.int .u64 y1,.pointer q1,.bool s2,.int .u64 x2,.int .u64 y2,.pointer q2]):=xg.new w3 _ _
   have H12:=af (And.intro (h1.but bA3) (h2.but bA3))
   clear hb3 bA3 bs3 h1 h2 HB2 KI2 RK2 CW2 LIH
   go_wp2
   generalize w3.heap.size=g18 at *
   generalize w3.alloc (.cells #[.bool s1,.int .u64 x1,.int .u64 y1,.pointer q1,.bool s2,.int .u64 x2,.int .u64 y2,.pointer q2] 50)=V3 at *
   obtain⟨k1,k2,k3,k4⟩:=ae CW
   refine zrs 13 _ _ V3 g10 g11 (.slice a' k c') yr la ev u4 v4 u5 v5 s4 x4 y4 q4 s5 x5 y5 q5 (by simp) (by simp[Act.eval]) (by simp[Act.eval]) (by simp[Act.eval]) (by simp[Act.eval]) ((ae CW3).ag k1 (by simp)) ((ae CW3).ag k2 (by simp)) ((ae CW3).ag k3 (by simp)) ((ae CW3).ag k4 (by simp)) (ae C4H) (ae C5H) (fun W hb=>ae AMH W _ _ ((ae KI3).but hb)) ?_
   intro t g20 w4 hP
   simp only[bk,List.foldl_cons,List.foldl_nil,Act.put,List.setIfInBounds_toArray,List.set_cons_zero,List.set_cons_succ]
   have hb4:=hP.mem
   have hf4:=hP.f7 rfl
   have hx4:=hP.f11 rfl
   clear hP
   obtain⟨s6,x6,y6,q6⟩:=t
   have hS:=br w4 g20 [.bool s6,.int .u64 x6,.int .u64 y6,.pointer q6] 0
   have hF:But [] V3 (w4.setCells g20 0 [.bool s6,.int .u64 x6,.int .u64 y6,.pointer q6]):=hb4.trans hS (fun x hx=>by simp at hx;subst hx;exact .inr hx4.new)
   have hff:=hf4.over (hx4.cells 0 _ rfl) hS
   have hX:=hx4.put (us:=[.bool s6,.int .u64 x6,.int .u64 y6,.pointer q6]) rfl
   have F20:=af hff
   have X20:=af hX
   have HB4:=af ((ae HB3).trans' hF)
   have CW4:=af ((ae CW3).trans' hF)
   have RK4:=af ((ae RK3).but hF)
   have X184:=af ((ae X18).but hF (by simp) (by simp))
   have H124:=af (And.intro ((ae H12).1.but hF) ((ae H12).2.but hF))
   change Exit.then _ _ _ _ (w4.setCells g20 0 [.bool s6,.int .u64 x6,.int .u64 y6,.pointer q6])
   generalize w4.setCells g20 0 [.bool s6,.int .u64 x6,.int .u64 y6,.pointer q6]=V4 at *
   clear hS hF hff hX hf4 hx4 hb4 k1 k2 k3 k4 HB3 CW3 RK3 X18 H12 KI3 AMH C4H C5H
   go_wp2_with fail
   refine (ae INH _).mono ?_
   rintro e5 w5 ⟨zb,rfl,hz5,hb5⟩
   have B5:=af hb5
   clear hz5 hb5
   go_wp2_with fail
   refine (ae INH _).mono ?_
   rintro e6 w6 ⟨zc,rfl,hz6,hb6⟩
   have B6:=af ((ae B5).trans' hb6)
   clear hz6 hb6 B5
   go_wp2_with fail
   refine (ae INH _).mono ?_
   rintro e7 w7 ⟨zd,rfl,hz7,hb7⟩
   have B7:=af ((ae B6).trans' hb7)
   clear hz7 hb7 B6 INH
   rcases ae HZ with rfl | hz
   ·go_wp2_with fail
    refine (ae RLH (by simp) _ _ ((ae RK4).but (ae B7))).mono ?_
    rintro e8 w8 ⟨xb,xc,rfl,hr1,hr2,hb8⟩
    have B8:=af ((ae B7).trans' hb8)
    have R8:=af (And.intro hr1 hr2)
    clear hr1 hr2 hb8 B7 RLH
    obtain⟨k1,k2,k3,k4⟩:=ae CW
    have cw:=(ae CW4).trans' (ae B8)
    replace k1:=cw.ag k1 (by simp)
    replace k2:=cw.ag k2 (by simp)
    replace k3:=cw.ag k3 (by simp)
    replace k4:=cw.ag k4 (by simp)
    have KK:=af (And.intro (And.intro k1 k2) (And.intro k3 k4))
    clear cw k1 k2 k3 k4
    go_wp2
    refine zrr 17 _ _ w8 g10 g11 u15 yr base own la u4 v4 u5 v5 (by simp) (by simp[Act.eval]) (by simp[Act.eval]) (by simp[Act.eval]) (by simp[Act.eval]) (ae KK).1.1 (ae KK).1.2 (ae KK).2.1 (ae KK).2.2 (ae D4H) (ae D5H) (fun W x y hb hx hy=>ae RAH (by simp) W _ x y (((ae RK4).but (ae B8)).but hb) hx hy) ?_
    intro x' y' xd w9 hP
    simp only[bk,List.foldl_cons,List.foldl_nil,Act.put,List.setIfInBounds_toArray,List.set_cons_zero,List.set_cons_succ]
    have B9:=af ((ae B8).trans' hP.mem)
    have R9:=af (And.intro ((ae R8).1.but hP.mem) (And.intro ((ae R8).2.but hP.mem) (hP.f6 rfl)))
    clear hP B8 R8 KK RAH D4H D5H RK4
    obtain⟨k0,k1,k2,k3,k4,k5,k6,k7⟩:w9.cell? ⟨g18,0,none⟩=some (.bool s1)∧w9.cell? ⟨g18,1,none⟩=some (.int .u64 x1)∧w9.cell? ⟨g18,2,none⟩=some (.int .u64 y1)∧w9.cell? ⟨g18,3,none⟩=some (.pointer q1)∧w9.cell? ⟨g18,4,none⟩=some (.bool s2)∧w9.cell? ⟨g18,5,none⟩=some (.int .u64 x2)∧w9.cell? ⟨g18,6,none⟩=some (.int .u64 y2)∧w9.cell? ⟨g18,7,none⟩=some (.pointer q2):=by
     have h:=(ae X184).but (ae B9) (by simp) (by simp)
     exact⟨h.cells 0 _ rfl,h.cells 1 _ rfl,h.cells 2 _ rfl,h.cells 3 _ rfl,h.cells 4 _ rfl,h.cells 5 _ rfl,h.cells 6 _ rfl,h.cells 7 _ rfl⟩
    obtain⟨m0,m1,m2,m3⟩:w9.cell? ⟨g20,0,none⟩=some (.bool s6)∧w9.cell? ⟨g20,1,none⟩=some (.int .u64 x6)∧w9.cell? ⟨g20,2,none⟩=some (.int .u64 y6)∧w9.cell? ⟨g20,3,none⟩=some (.pointer q6):=by
     have h:=(ae X20).but (ae B9)
     exact⟨h.cells 0 _ rfl,h.cells 1 _ rfl,h.cells 2 _ rfl,h.cells 3 _ rfl⟩
    have HBA:=af ((ae HB4).trans' (ae B9))
    have O1:=af (ae E1H w9 _ xb (ae HBA) ((ae H124).1.but (ae B9)) (fun _=>(ae R9).1))
    have FA:=af (And.intro ((ae H124).2.but (ae B9)) ((ae F20).but (ae B9)))
    clear HB4 B9 H124 F20 X184 X20 E1H CW CW4
    go_wp2_with fail
    refine (ae O1).mono ?_
    rintro e wa ⟨rfl,ha⟩
    have HBB:=af ((ae HBA).trans' ha)
    have O2:=af (ae E2H wa _ xc (ae HBB) ((ae FA).1.but ha) (fun _=>(ae R9).2.1.but ha))
    have FB:=af ((ae FA).2.but ha)
    have RB:=af ((ae R9).2.2.but ha)
    replace k4:=ha.ag k4 (by simp)
    replace k5:=ha.ag k5 (by simp)
    replace k6:=ha.ag k6 (by simp)
    replace k7:=ha.ag k7 (by simp)
    replace m0:=ha.ag m0 (by simp)
    replace m1:=ha.ag m1 (by simp)
    replace m2:=ha.ag m2 (by simp)
    replace m3:=ha.ag m3 (by simp)
    clear ha HBA O1 FA E2H k0 k1 k2 k3 R9
    go_wp2_with fail
    refine (ae O2).mono ?_
    rintro e wb ⟨rfl,hb⟩
    have HBC:=af ((ae HBB).trans' hb)
    have O3:=af (ae E3H wb _ xd (ae HBC) ((ae FB).but hb) (fun _=>(ae RB).but hb))
    replace m0:=hb.ag m0 (by simp)
    replace m1:=hb.ag m1 (by simp)
    replace m2:=hb.ag m2 (by simp)
    replace m3:=hb.ag m3 (by simp)
    clear hb HBB O2 FB RB E3H k4 k5 k6 k7
    go_wp2_with fail
    refine (ae O3).mono ?_
    rintro e wc ⟨rfl,hc⟩
    have HBD:=af ((ae HBC).trans' hc)
    clear hc HBC O3
    go_wp2
    go_ret
    exact⟨rfl,ae HBD⟩
   ·have B9:=af (ae B7)
    clear B7 RLH RAH D4H D5H RK4
    obtain⟨k0,k1,k2,k3,k4,k5,k6,k7⟩:w7.cell? ⟨g18,0,none⟩=some (.bool s1)∧w7.cell? ⟨g18,1,none⟩=some (.int .u64 x1)∧w7.cell? ⟨g18,2,none⟩=some (.int .u64 y1)∧w7.cell? ⟨g18,3,none⟩=some (.pointer q1)∧w7.cell? ⟨g18,4,none⟩=some (.bool s2)∧w7.cell? ⟨g18,5,none⟩=some (.int .u64 x2)∧w7.cell? ⟨g18,6,none⟩=some (.int .u64 y2)∧w7.cell? ⟨g18,7,none⟩=some (.pointer q2):=by
     have h:=(ae X184).but (ae B9) (by simp) (by simp)
     exact⟨h.cells 0 _ rfl,h.cells 1 _ rfl,h.cells 2 _ rfl,h.cells 3 _ rfl,h.cells 4 _ rfl,h.cells 5 _ rfl,h.cells 6 _ rfl,h.cells 7 _ rfl⟩
    obtain⟨m0,m1,m2,m3⟩:w7.cell? ⟨g20,0,none⟩=some (.bool s6)∧w7.cell? ⟨g20,1,none⟩=some (.int .u64 x6)∧w7.cell? ⟨g20,2,none⟩=some (.int .u64 y6)∧w7.cell? ⟨g20,3,none⟩=some (.pointer q6):=by
     have h:=(ae X20).but (ae B9)
     exact⟨h.cells 0 _ rfl,h.cells 1 _ rfl,h.cells 2 _ rfl,h.cells 3 _ rfl⟩
    have HBA:=af ((ae HB4).trans' (ae B9))
    have O1:=af (ae E1H w7 _ zb (ae HBA) ((ae H124).1.but (ae B9)) (fun h=>absurd hz (by rw[h];decide)))
    have FA:=af (And.intro ((ae H124).2.but (ae B9)) ((ae F20).but (ae B9)))
    clear HB4 B9 H124 F20 X184 X20 E1H CW CW4
    go_wp2_with fail
    refine (ae O1).mono ?_
    rintro e wa ⟨rfl,ha⟩
    have HBB:=af ((ae HBA).trans' ha)
    have O2:=af (ae E2H wa _ zc (ae HBB) ((ae FA).1.but ha) (fun h=>absurd hz (by rw[h];decide)))
    have FB:=af ((ae FA).2.but ha)
    have RB:=af True.intro
    replace k4:=ha.ag k4 (by simp)
    replace k5:=ha.ag k5 (by simp)
    replace k6:=ha.ag k6 (by simp)
    replace k7:=ha.ag k7 (by simp)
    replace m0:=ha.ag m0 (by simp)
    replace m1:=ha.ag m1 (by simp)
    replace m2:=ha.ag m2 (by simp)
    replace m3:=ha.ag m3 (by simp)
    clear ha HBA O1 FA E2H k0 k1 k2 k3
    go_wp2_with fail
    refine (ae O2).mono ?_
    rintro e wb ⟨rfl,hb⟩
    have HBC:=af ((ae HBB).trans' hb)
    have O3:=af (ae E3H wb _ zd (ae HBC) ((ae FB).but hb) (fun h=>absurd hz (by rw[h];decide)))
    replace m0:=hb.ag m0 (by simp)
    replace m1:=hb.ag m1 (by simp)
    replace m2:=hb.ag m2 (by simp)
    replace m3:=hb.ag m3 (by simp)
    clear hb HBB O2 FB RB E3H k4 k5 k6 k7
    go_wp2_with fail
    refine (ae O3).mono ?_
    rintro e wc ⟨rfl,hc⟩
    have HBD:=af ((ae HBC).trans' hc)
    clear hc HBC O3
    go_wp2
    go_ret
    exact⟨rfl,ae HBD⟩
theorem zuw {P:Nat→Prop}:∀ n,(∃ t,t<n∧¬ P t)→∃ m,m<n∧¬ P m∧∀ i,i<m→P i
 | 0,⟨t,h,_⟩=>by omega
 | n+1,⟨t,h,hp⟩=>by
  by_cases h1:∃ t,t<n∧¬ P t
  ·obtain⟨m,a,b,c⟩:=zuw n h1
   exact⟨m,by omega,b,c⟩
  ·refine⟨t,h,hp,fun i hi=>?_⟩
   by_cases e:P i
   ·exact e
   ·exact absurd ⟨i,by omega,e⟩ h1
theorem qft (ks:List Kd):(ks.any (fun k=>decide (k.ch.num<0) || decide (k.sp.num<0))=true↔∃ t,t<ks.length∧¬ (0≤(ze ks t).ch.num∧0≤(ze ks t).sp.num)):=by
 constructor
 ·intro h
  obtain⟨k,hm,hk⟩:=List.any_eq_true.1 h
  obtain⟨t,ht,rfl⟩:=List.mem_iff_getElem.1 hm
  refine⟨t,ht,?_⟩
  have e:ze ks t=ks[t]:=by unfold ze;rw[List.getElem?_eq_getElem ht];rfl
  rw[e]
  simp only[Bool.or_eq_true,decide_eq_true_eq] at hk
  omega
 ·rintro ⟨t,ht,h⟩
  refine List.any_eq_true.2 ⟨_,zry ht,?_⟩
  simp only[Bool.or_eq_true,decide_eq_true_eq]
  omega
theorem zpd (v1 v2 v3:Value) (qs1 qs2 qs3:List (Int × Int)) (yr u4 v4 u5 v5:Int) (w:World) (h1:zee w v1 qs1) (h2:zee w v2 qs2) (h3:zee w v3 qs3) (f1:∀ q ∈ qs1,Fits q) (f2:∀ q ∈ qs2,Fits q) (f3:∀ q ∈ qs3,Fits q) (f4:Fits (u4,v4)) (f5:Fits (u5,v5))
  (htab:Lib.TabIs prog w "internal/strconv.uint64pow10" .u64 Lib.pow10Tab) (herr:w.cell? ⟨0,0,none⟩=some (.iface 183 (.agg #[.pointer (some ⟨6,29,none⟩)]))) :
  Calls prog 4 #[v1,v2,v3,.int .i64 yr,.agg #[.int .i64 u4,.int .i64 v4],.agg #[.int .i64 u5,.int .i64 v5]] w fun e w'=>e=.returned (.bool true)∧But [] w w':=by
 obtain⟨a1,c1,e1,-,-⟩:=id h1
 obtain⟨a2,c2,e2,-,-⟩:=id h2
 obtain⟨a3,c3,e3,-,-⟩:=id h3
 obtain⟨n,hn0⟩:∃ n,n=qs1.length:=⟨_,rfl⟩
 rw[← hn0] at e1
 rw[e1] at h1 ⊢
 rw[e2] at h2 ⊢
 rw[e3] at h3 ⊢
 by_cases hg:60<n∨n≤60∧(qs2.length<n∨n≤qs2.length∧qs3.length<n)
 ·exact qdq a1 a2 a3 n c1 _ c2 _ c3 yr u4 v4 u5 v5 w hg
 have hn:n≤60:=by omega
 have hn2:n≤qs2.length:=by omega
 have hn3:n≤qs3.length:=by omega
 obtain⟨R1,X1,Y1,R2,X2,Y2,R3,X3,Y3,ks,KN,lc,lm,lp,V1,V2,V3,hA,KA⟩:=qax qs1 qs2 qs3 n (by omega) hn2 hn3 f1 f2 f3
 have OF:∀ (q:Int × Int),Fits q→∀ W,Calls prog 12 #[.agg #[.int .i64 q.1,.int .i64 q.2]] W fun e w'=>∃ b,e=.returned (.pointer (some ⟨b,0,none⟩))∧za w' b (qf q)∧But [] W w':=fun q hq W=>qzn q.1 q.2 (qf q) W hq.1 hq.2.1 hq.2.2.1 hq.2.2.2 (zqy q hq)
 have fit:∀ (qs:List (Int × Int)),(∀ q ∈ qs,Fits q)→∀ i,i<qs.length→Fits (qs[i]?.getD (0,0)):=fun qs hf i hi=>by
  rw[List.getElem?_eq_getElem hi]
  exact hf _ (List.getElem_mem hi)
 have O1:∀ i,i<n→∀ W,Calls prog 12 #[.agg #[.int .i64 (qs1[i]?.getD (0,0)).1,.int .i64 (qs1[i]?.getD (0,0)).2]] W fun e w'=>∃ b,e=.returned (.pointer (some ⟨b,0,none⟩))∧za w' b (ze ks i).ch∧But [] W w':=fun i hi W=>by
  rw[hA i hi];exact OF _ (fit qs1 f1 i (by omega)) W
 have O2:∀ i,i<n→∀ W,Calls prog 12 #[.agg #[.int .i64 (qs2[i]?.getD (0,0)).1,.int .i64 (qs2[i]?.getD (0,0)).2]] W fun e w'=>∃ b,e=.returned (.pointer (some ⟨b,0,none⟩))∧za w' b (ze ks i).me∧But [] W w':=fun i hi W=>by
  rw[hA i hi];exact OF _ (fit qs2 f2 i (by omega)) W
 have O3:∀ i,i<n→∀ W,Calls prog 12 #[.agg #[.int .i64 (qs3[i]?.getD (0,0)).1,.int .i64 (qs3[i]?.getD (0,0)).2]] W fun e w'=>∃ b,e=.returned (.pointer (some ⟨b,0,none⟩))∧za w' b (ze ks i).sp∧But [] W w':=fun i hi W=>by
  rw[hA i hi];exact OF _ (fit qs3 f3 i (by omega)) W
 obtain⟨r4,x4,y4,l4,F4,C4⟩:=zcl (u4,v4) f4
 obtain⟨r5,x5,y5,l5,F5,C5⟩:=zcl (u5,v5) f5
 have D4:=OF (u4,v4) f4
 have D5:=OF (u5,v5) f5
 generalize qf (u4,v4)=base at *
 generalize qf (u5,v5)=own at *
 have IN:∀ W,Calls prog 16 #[.int .i64 0] W fun e w'=>∃ b,e=.returned (.pointer (some ⟨b,0,none⟩))∧za w' b (((0:Int):Rat))∧But [] W w':=fun W=>rf 0 W (by omega) (by omega)
 -- kinds,or years,that may not be
 have bad:∀ z:Int,(z==0)=false→z≠0→(z != 0)=true→(∀ W a c,nu W (.slice a n c) ks→Calls prog 52 #[.slice a n c,.int .i64 yr] W fun e w'=>e=.returned (zmf z)∧But [] W w')→(∀ W v,zmm W v ks→Calls prog 13 #[v,.int .i64 yr] W fun e w'=>e=.returned (.int .i64 z)∧But [] W w') →
   Calls prog 4 #[.slice a1 n c1,.slice a2 qs2.length c2,.slice a3 qs3.length c3,.int .i64 yr,.agg #[.int .i64 u4,.int .i64 v4],.agg #[.int .i64 u5,.int .i64 v5]] w fun e w'=>e=.returned (.bool true)∧But [] w w':=fun z hz hz0 hz' CK KC =>
  zup a1 a2 a3 n c1 _ c2 _ c3 yr u4 v4 u5 v5 qs1 qs2 qs3 ks z (.inr hz) (.iface 33 (.int .i64 z)) 0 0 0 base own R1 X1 Y1 R2 X2 Y2 R3 X3 Y3 r4 x4 y4 none r5 x5 y5 none w hn hn2 hn3 KN h1 h2 h3 V1 O1 V2 O2 V3 O3 KA C4 C5 D4 D5 KC
   (fun W a c h=>(qdr a n c yr W z hz0 (fun W' hb=>CK W' a c (h.but hb))).mono fun e w' ⟨he,hb⟩=>⟨_,he,⟨_,_,_,_,_,_,_,_,rfl,jb _,jb _⟩,hb⟩)
   (fun W a c h=>(zxl a n c yr W z r4 x4 y4 none r5 x5 y5 none hz0 (fun W' hb=>CK W' a c (h.but hb))).mono fun e w' ⟨he,hb⟩=>⟨(false,0,0,none),he,jb _,hb⟩)
   IN (fun h=>absurd h hz0) (fun h=>absurd h hz0)
   (fun W v x hb hv _=>zwg z v _ W hv hz' (TabIs.but htab hb) (hb.ag herr (by simp)))
   (fun W v x hb hv _=>zwg z v _ W hv hz' (TabIs.but htab hb) (hb.ag herr (by simp)))
   (fun W v x hb hv _=>zwg z v _ W hv hz' (TabIs.but htab hb) (hb.ag herr (by simp)))
 by_cases hlim:n<1∨40<n
 ·refine bad 4 (by decide) (by decide) (by decide) (fun W a c h=>zns a n c yr W (by omega)) (fun W v hv=>?_)
  obtain⟨a,cap,e,-,-⟩:=hv
  rw[e]
  exact qaw a _ cap yr W (by omega)
 have k1:1≤n:=by omega
 have k40:n≤40:=by omega
 have lc':∀ j,j<ks.length→Len (ze ks j).ch 1:=by rw[← KN];exact lc
 have lm':∀ j,j<ks.length→Len (ze ks j).me 1:=by rw[← KN];exact lm
 have lp':∀ j,j<ks.length→Len (ze ks j).sp 1:=by rw[← KN];exact lp
 have CKA:∀ ce:Int,(ce=if ks.any (fun k=>decide (k.ch.num<0) || decide (k.sp.num<0)) then 1 else if mkR ks (fun _=>((1:Int):Rat)) n=((1:Int):Rat) then (if yr<1 then 2 else if 120<yr then 2 else 0) else 10)→∀ W a c,nu W (.slice a n c) ks→Calls prog 52 #[.slice a n c,.int .i64 yr] W fun e w'=>e=.returned (zmf ce)∧But [] W w':=fun ce hce W a c h=>zsm a n c ks yr W h KN k1 k40 ce hce lc lm lp
 by_cases hany:∃ t,t<ks.length∧¬ (0≤(ze ks t).ch.num∧0≤(ze ks t).sp.num)
 ·obtain⟨m,hm,hmb,hmg⟩:=zuw (P:=fun t=>0≤(ze ks t).ch.num∧0≤(ze ks t).sp.num) ks.length hany
  refine bad 1 (by decide) (by decide) (by decide) (CKA 1 (by rw[if_pos ((qft ks).2 hany)])) (fun W v hv=>zrw v ks yr 1 m W hv (by omega) (by omega) lc' lp' (by omega) hmg (.inl ⟨hm,?_,rfl⟩))
  by_cases hc:(ze ks m).ch.num<0
  ·exact .inl hc
  ·exact .inr ⟨by omega,Classical.byContradiction fun h=>hmb ⟨by omega,by omega⟩⟩
 have hno:¬ ks.any (fun k=>decide (k.ch.num<0) || decide (k.sp.num<0))=true:=fun h=>hany ((qft ks).1 h)
 have hall:∀ j,j<ks.length→0≤(ze ks j).ch.num∧0≤(ze ks j).sp.num:=fun j hj=>Classical.byContradiction fun h=>hany ⟨j,hj,h⟩
 have KCA:∀ z:Int,((chS ks ks.length≠((1:Int):Rat)∧z=10)∨(chS ks ks.length=((1:Int):Rat)∧((yr<1∧z=2)∨(1≤yr∧120<yr∧z=2)∨(1≤yr∧yr≤120∧z=0))))→∀ W v,zmm W v ks→Calls prog 13 #[v,.int .i64 yr] W fun e w'=>e=.returned (.int .i64 z)∧But [] W w':=fun z hz W v hv=>zrw v ks yr z ks.length W hv (by omega) (by omega) lc' lp' (Nat.le_refl _) hall (.inr ⟨rfl,hz⟩)
 rw[qop] at KCA
 by_cases hsum:mkR ks (fun _=>((1:Int):Rat)) ks.length=((1:Int):Rat)
 ·by_cases hy1:yr<1
  ·exact bad 2 (by decide) (by decide) (by decide) (CKA 2 (by rw[if_neg hno,KN,if_pos hsum,if_pos hy1])) (KCA 2 (.inr ⟨hsum,.inl ⟨hy1,rfl⟩⟩))
  ·by_cases hy2:120<yr
   ·exact bad 2 (by decide) (by decide) (by decide) (CKA 2 (by rw[if_neg hno,KN,if_pos hsum,if_neg hy1,if_pos hy2])) (KCA 2 (.inr ⟨hsum,.inr (.inl ⟨by omega,hy2,rfl⟩)⟩))
   ·clear bad CKA
    have hk:zws ks=0:=by
     unfold zws
     rw[if_neg (by omega),if_neg hno,if_pos hsum]
    obtain⟨p1,p2⟩:=qii ks yr hk (by omega)
    obtain⟨-,-,hne⟩:=zna _ _ p1 p2
    obtain⟨l1,l2,l3⟩:=qdu ks yr (by omega) (by omega) (by omega) lc' lm' lp'
    have lO:Len (zrc ks yr) 4000:=zpo l2 l3 hne 4000 (by omega)
    have hOL:qgw ks ((yr:Int):Rat)=zrc ks yr:=qlf ks yr hne
    have l11:Len ((1:Int):Rat) 1:=kr 1 (by omega)
    have lB:Len ((((1:Int):Rat)-zrc ks yr)*mx1 ks) 20000:=jd (fe l11 lO 4010 (by omega)) (l1.mono (show 500≤10000 by omega)) _ (by omega)
    have lA:Len (amR (mx1 ks) (mx2 ks) (mx3 ks yr) base own) 1000000:=by
     unfold amR
     have h1:=fe l11 (l5.mono (show 1≤10000 by omega)) 10010 (by omega)
     have h2:=fe (l4.mono (show 1≤20000 by omega)) (jd h1 (l1.mono (show 500≤10000 by omega)) 20010 (by omega)) 40020 (by omega)
     have h3:=jd h2 h2 80040 (by omega)
     have h4:=jd (jd h1 h1 20020 (by omega)) (l2.mono (show _≤10000 by omega)) 30020 (by omega)
     have h5:=jd (jd (l5.mono (show 1≤10000 by omega)) (l5.mono (show 1≤10000 by omega)) 20000 (by omega)) (l3.mono (show _≤10000 by omega)) 30000 (by omega)
     exact mi (mi h3 h4 120000 (by omega)) h5 _ (by omega)
    have hmx:meS ks ks.length=mx1 ks:=rfl
    refine zup a1 a2 a3 n c1 _ c2 _ c3 yr u4 v4 u5 v5 qs1 qs2 qs3 ks 0 (.inl rfl) .nilIface ((((1:Int):Rat)-zrc ks yr)*mx1 ks) (zrc ks yr) (amR (mx1 ks) (mx2 ks) (mx3 ks yr) base own) base own R1 X1 Y1 R2 X2 Y2 R3 X3 Y3 r4 x4 y4 none r5 x5 y5 none w hn hn2 hn3 KN h1 h2 h3 V1 O1 V2 O2 V3 O3 KA C4 C5 D4 D5 (KCA 0 (.inr ⟨hsum,.inr (.inr ⟨by omega,by omega,rfl⟩)⟩))
     (fun W a c h=>qim a n c ks yr W h KN k40 (by omega) (by omega) lc lm lp hne hk)
     (fun W a c h=>(qby a n c ks yr W h KN k40 (by omega) (by omega) lc lm lp r4 x4 y4 none r5 x5 y5 none base own (F4 W) (F5 W) (l4.mono (by omega)) (l5.mono (by omega)) hk).mono fun e w' ⟨s,x,y,p,he,hf,hb⟩=>⟨(s,x,y,p),he,hf,hb⟩)
     IN
     (fun _ W v hv=>(zvy v ks yr W hv (by omega) (by omega) (by omega) lc' lm' lp' (by rw[hOL];exact (zo lO).mono (by omega))).mono fun e w' ⟨b1,b2,he,r1,r2,hb⟩=>⟨b1,b2,he,by rw[hOL,hmx,Rat.mul_comm] at r1;exact r1,by rw[hOL] at r2;exact r2,hb⟩)
     (fun _ W v x y hv hx hy=>(zyv v ks yr x y base own W hv (by omega) (by omega) (by omega) lc' lm' lp' hx hy l4 l5).mono fun e w' ⟨b,he,r,hb⟩=>⟨b,he,by rw[qrg ks yr base own hsum] at r;exact r,hb⟩)
     (fun W v x hb hv hx=>qde v _ x W hv (hx rfl) (lB.mono (by omega)) (TabIs.but htab hb))
     (fun W v x hb hv hx=>qqx v _ x W hv (hx rfl) (lO.mono (by omega)) (TabIs.but htab hb))
     (fun W v x hb hv hx=>qde v _ x W hv (hx rfl) lA (TabIs.but htab hb))
 ·exact bad 10 (by decide) (by decide) (by decide) (CKA 10 (by rw[if_neg hno,KN,if_neg hsum])) (KCA 10 (.inl ⟨hsum,rfl⟩))
end Go.Proofs.YtffghofheeleeaaGreatDoor
