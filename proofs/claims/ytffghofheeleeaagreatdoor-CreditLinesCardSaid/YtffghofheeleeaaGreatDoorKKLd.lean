/- The best line and what a line says amiss -/
import Derived.Test.YtffghofheeleeaaGreatDoorKKLc
namespace Go.Proofs.YtffghofheeleeaaGreatDoor
open Go.Proofs.Tryz
open Go.RowKit
set_option maxHeartbeats 32000000
set_option maxRecDepth 100000
set_option linter.unusedVariables false
def meS (ks:List Kd):Nat→Rat:=mkR ks (fun k=>k.me)
def sqS (ks:List Kd):Nat→Rat:=mkR ks (fun k=>k.me*k.me)
def ownL (ks:List Kd) (y:Rat):Rat:=qR (sqS ks ks.length-meS ks ks.length*meS ks ks.length) ((sqS ks ks.length+dbS ks y ks.length)-meS ks ks.length*meS ks ks.length)
theorem qg.div {f g:Rat} {m n:Nat} (hf:qg f m) (hg:qg g n) (h0:g.num≠0):qg (f/g) (m+n):=by
 have hq:(f/g)*g=f:=Rat.div_mul_cancel (fun e=>h0 (by rw[e];rfl))
 have d1:(wd 4294967296 ((f.den:Nat):Int).natAbs).length≤m:=by rw[Int.natAbs_natCast];exact hf.2
 have d2:(wd 4294967296 ((g.den:Nat):Int).natAbs).length≤n:=by rw[Int.natAbs_natCast];exact hg.2
 exact lenU_of (f/g) (f.num*(g.den:Int)) ((f.den:Int)*g.num) (m+n) (Int.mul_ne_zero (by have:=f.den_nz;omega) h0) (cross_quo f g (f/g) hq) (qp _ _ m n hf.1 d2) (qp _ _ m n d1 hg.1)
theorem refLinear_ok (v:Value) (ks:List Kd) (yr:Int) (w:World) (hv:RKAt w v ks) (h40:ks.length≤40) (hy1:1≤yr) (hy2:yr≤120) (lc:∀ j,j<ks.length→Len (ze ks j).ch 1) (lm:∀ j,j<ks.length→Len (ze ks j).me 1) (lp:∀ j,j<ks.length→Len (ze ks j).sp 1) (lo:qg (ownL ks ((yr:Int):Rat)) 100000) :
  Calls prog 17 #[v,.int .i64 yr] w fun e w'=>∃ b1 b2,e=.returned (.tuple #[.pointer (some ⟨b1,0,none⟩),.pointer (some ⟨b2,0,none⟩)])∧za w' b1 (meS ks ks.length*(((1:Int):Rat)-ownL ks ((yr:Int):Rat)))∧zdt w' b2 (ownL ks ((yr:Int):Rat))∧But [] w w':=by
 have ly:qg ((yr:Int):Rat) 2:=qg.int (by omega)
 have y0:(((yr:Int):Rat)).num≠0:=by rw[Rat.num_intCast];omega
 have yn:((yr:Int):Rat)≠0:=fun e=>y0 (by rw[e];rfl)
 have l1:∀ j,j<ks.length→qg ((ze ks j).ch*(ze ks j).me) 12:=fun j hj=>((z8 (lc j hj)).mul (z8 (lm j hj))).mono (by omega)
 have l2a:∀ j,j<ks.length→qg ((ze ks j).me*(ze ks j).me) 12:=fun j hj=>((z8 (lm j hj)).mul (z8 (lm j hj))).mono (by omega)
 have l2:∀ j,j<ks.length→qg ((ze ks j).ch*((ze ks j).me*(ze ks j).me)) 24:=fun j hj=>((z8 (lc j hj)).mul (l2a j hj)).mono (by omega)
 have l3a:∀ j,j<ks.length→qg ((ze ks j).ch*(ze ks j).sp) 12:=fun j hj=>((z8 (lc j hj)).mul (z8 (lp j hj))).mono (by omega)
 have l3:∀ j,j<ks.length→qg ((ze ks j).ch*(ze ks j).sp/((yr:Int):Rat)) 24:=fun j hj=>((l3a j hj).div ly y0).mono (by omega)
 have s1:∀ k,k≤ks.length→qg (meS ks k) 2000:=fun k hk=>(zgm (F:=fun j=>(ze ks j).ch*(ze ks j).me) (c:=12) k (fun j hj=>l1 j (by omega))).mono (by have:k*13≤40*13:=Nat.mul_le_mul_right _ (by omega);omega)
 have s2:∀ k,k≤ks.length→qg (sqS ks k) 2000:=fun k hk=>(zgm (F:=fun j=>(ze ks j).ch*((ze ks j).me*(ze ks j).me)) (c:=24) k (fun j hj=>l2 j (by omega))).mono (by have:k*25≤40*25:=Nat.mul_le_mul_right _ (by omega);omega)
 have s3:∀ k,k≤ks.length→qg (dbS ks ((yr:Int):Rat) k) 2000:=fun k hk=>(zgm (F:=fun j=>(ze ks j).ch*(ze ks j).sp/((yr:Int):Rat)) (c:=24) k (fun j hj=>l3 j (by omega))).mono (by have:k*25≤40*25:=Nat.mul_le_mul_right _ (by omega);omega)
 have I0:Hid (∀ W,Calls prog 16 #[.int .i64 0] W fun e w'=>∃ zb,e=.returned (.pointer (some ⟨zb,0,none⟩))∧za w' zb (((0:Int):Rat))∧But [] W w'):=fun W=>zck 0 W (by omega) (by omega)
 have I1:Hid (∀ W,Calls prog 16 #[.int .i64 1] W fun e w'=>∃ zb,e=.returned (.pointer (some ⟨zb,0,none⟩))∧za w' zb (((1:Int):Rat))∧But [] W w'):=fun W=>zck 1 W (by omega) (by omega)
 have IY:Hid (∀ W,Calls prog 16 #[.int .i64 yr] W fun e w'=>∃ zb,e=.returned (.pointer (some ⟨zb,0,none⟩))∧za w' zb (((yr:Int):Rat))∧But [] W w'):=fun W=>zck yr W (by omega) (by omega)
 obtain⟨a,cap,rfl,hcap,hV⟩:=rk_cells hv
 have HV:=af hV
 have HL:=af (And.intro lc (And.intro lm (And.intro lp (And.intro l1 (And.intro l2a (And.intro l2 (And.intro l3a l3)))))))
 have HS:=af (And.intro s1 (And.intro s2 s3))
 have HY:=af (And.intro ly (And.intro y0 yn))
 have HO:=af lo
 clear hV hv lc lm lp l1 l2a l2 l3a l3 s1 s2 s3 ly y0 yn lo
 obtain⟨n,hnn⟩:∃ n,n=ks.length:=⟨_,rfl⟩
 have HN:=af hnn
 rw[← hnn] at h40 hcap HV HL HS
 rw[← hnn]
 clear hnn
 go_enter func17,ntmps17
 go_wp2_with fail
 refine (ae I0 _).mono ?_
 rintro e w1 ⟨ga,rfl,ha,hb1⟩
 have S1:=af (And.intro ha hb1)
 clear ha hb1
 go_wp2_with fail
 refine (ae I0 _).mono ?_
 rintro e w2 ⟨gb,rfl,hb,hb2⟩
 have S2:=af (And.intro ((ae S1).1.but hb2) (And.intro hb ((ae S1).2.trans' hb2)))
 clear hb hb2 S1
 go_wp2_with fail
 refine (ae I0 _).mono ?_
 rintro e w3 ⟨gc,rfl,hc,hb3⟩
 have S3:Hid (za w3 ga (meS ks 0)∧za w3 gb (sqS ks 0)∧za w3 gc (dbS ks ((yr:Int):Rat) 0)∧But [] w w3):=⟨(ae S2).1.but hb3,(ae S2).2.1.but hb3,hc,(ae S2).2.2.trans' hb3⟩
 clear hc hb3 S2 I0
 go_wp2
 go_loopw [6,7,8,17] (fun p q r i wr=>∃ (k pa pb pc:Nat),k≤n∧i=.int .i64 (k:Int)∧p=.pointer (some ⟨pa,0,none⟩)∧q=.pointer (some ⟨pb,0,none⟩)∧r=.pointer (some ⟨pc,0,none⟩)∧Hid (za wr pa (meS ks k)∧za wr pb (sqS ks k)∧za wr pc (dbS ks ((yr:Int):Rat) k)∧But [] w wr)) (fun _ _ _ i _=>n-(intOf i).toNat)
 case atStart=>exact⟨0,ga,gb,gc,Nat.zero_le _,rfl,rfl,rfl,rfl,ae S3⟩
 case round =>
  obtain⟨k,pa,pb,pc,hk,rfl,rfl,rfl,rfl,HI⟩:=hrel
  rename World=>wr
  clear S3
  by_cases hlt:k<n
  ·obtain⟨ia,ib,ic,iw⟩:=ae HI
   obtain⟨b,off,g1,g2,g3,rfl,c1,c2,c3,r1,r2,r3⟩:=ae HV wr iw k hlt
   obtain⟨V,hV⟩:∃ V,V=wr.alloc (.cells #[.pointer (some ⟨g1,0,none⟩),.pointer (some ⟨g2,0,none⟩),.pointer (some ⟨g3,0,none⟩)] 47):=⟨_,rfl⟩
   obtain⟨gk,hgk⟩:∃ g,g=wr.heap.size:=⟨_,rfl⟩
   have bV:But [] wr V:=by rw[hV];exact (But.refl _ _).alloc _
   have k0:V.cell? ⟨gk,0,none⟩=some (.pointer (some ⟨g1,0,none⟩)):=by rw[hV,hgk];simp
   have k1:V.cell? ⟨gk,1,none⟩=some (.pointer (some ⟨g2,0,none⟩)):=by rw[hV,hgk];simp
   have k2:V.cell? ⟨gk,2,none⟩=some (.pointer (some ⟨g3,0,none⟩)):=by rw[hV,hgk];simp
   have S0:=af (And.intro (r1.but bV) (And.intro (r2.but bV) (And.intro (r3.but bV) (And.intro (ia.but bV) (And.intro (ib.but bV) (And.intro (ic.but bV) (iw.trans' bV)))))))
   obtain⟨lc,lm,lp,l1,l2a,l2,l3a,l3⟩:=ae HL
   obtain⟨s1,s2,s3⟩:=ae HS
   obtain⟨ly,y0,yn⟩:=ae HY
   have M1:Hid (∀ W,But [] V W→Calls prog 42 #[.pointer (some ⟨g1,0,none⟩),.pointer (some ⟨g2,0,none⟩)] W fun e w'=>∃ zb,e=.returned (.pointer (some ⟨zb,0,none⟩))∧za w' zb ((ze ks k).ch*(ze ks k).me)∧But [] W w'):=fun W hb=>tu g1 g2 _ _ W ((r1.but bV).but hb) ((r2.but bV).but hb) ((z8 (lc k hlt)).mono (by omega)) ((z8 (lm k hlt)).mono (by omega))
   have A1:Hid (∀ W x,But [] V W→za W x ((ze ks k).ch*(ze ks k).me)→Calls prog 51 #[.pointer (some ⟨pa,0,none⟩),.pointer (some ⟨x,0,none⟩)] W fun e w'=>∃ zb,e=.returned (.pointer (some ⟨zb,0,none⟩))∧za w' zb (meS ks (k+1))∧But [] W w'):=fun W x hb hx=>zcl pa x _ _ W ((ia.but bV).but hb) hx ((s1 k (by omega)).mono (by omega)) ((l1 k hlt).mono (by omega))
   have M2:Hid (∀ W,But [] V W→Calls prog 42 #[.pointer (some ⟨g2,0,none⟩),.pointer (some ⟨g2,0,none⟩)] W fun e w'=>∃ zb,e=.returned (.pointer (some ⟨zb,0,none⟩))∧za w' zb ((ze ks k).me*(ze ks k).me)∧But [] W w'):=fun W hb=>tu g2 g2 _ _ W ((r2.but bV).but hb) ((r2.but bV).but hb) ((z8 (lm k hlt)).mono (by omega)) ((z8 (lm k hlt)).mono (by omega))
   have M3:Hid (∀ W x,But [] V W→za W x ((ze ks k).me*(ze ks k).me)→Calls prog 42 #[.pointer (some ⟨g1,0,none⟩),.pointer (some ⟨x,0,none⟩)] W fun e w'=>∃ zb,e=.returned (.pointer (some ⟨zb,0,none⟩))∧za w' zb ((ze ks k).ch*((ze ks k).me*(ze ks k).me))∧But [] W w'):=fun W x hb hx=>tu g1 x _ _ W ((r1.but bV).but hb) hx ((z8 (lc k hlt)).mono (by omega)) ((l2a k hlt).mono (by omega))
   have A2:Hid (∀ W x,But [] V W→za W x ((ze ks k).ch*((ze ks k).me*(ze ks k).me))→Calls prog 51 #[.pointer (some ⟨pb,0,none⟩),.pointer (some ⟨x,0,none⟩)] W fun e w'=>∃ zb,e=.returned (.pointer (some ⟨zb,0,none⟩))∧za w' zb (sqS ks (k+1))∧But [] W w'):=fun W x hb hx=>zcl pb x _ _ W ((ib.but bV).but hb) hx ((s2 k (by omega)).mono (by omega)) ((l2 k hlt).mono (by omega))
   have M4:Hid (∀ W,But [] V W→Calls prog 42 #[.pointer (some ⟨g1,0,none⟩),.pointer (some ⟨g3,0,none⟩)] W fun e w'=>∃ zb,e=.returned (.pointer (some ⟨zb,0,none⟩))∧za w' zb ((ze ks k).ch*(ze ks k).sp)∧But [] W w'):=fun W hb=>tu g1 g3 _ _ W ((r1.but bV).but hb) ((r3.but bV).but hb) ((z8 (lc k hlt)).mono (by omega)) ((z8 (lp k hlt)).mono (by omega))
   have D4:Hid (∀ W x y,But [] V W→za W x ((ze ks k).ch*(ze ks k).sp)→za W y ((yr:Int):Rat)→Calls prog 59 #[.pointer (some ⟨x,0,none⟩),.pointer (some ⟨y,0,none⟩)] W fun e w'=>∃ zb,e=.returned (.pointer (some ⟨zb,0,none⟩))∧za w' zb ((ze ks k).ch*(ze ks k).sp/((yr:Int):Rat))∧But [] W w'):=fun W x y hb hx hy=>refDivQ x y _ _ _ W hx hy ((l3a k hlt).mono (by omega)) (ly.mono (by omega)) y0 (Rat.div_mul_cancel yn)
   have A4:Hid (∀ W x,But [] V W→za W x ((ze ks k).ch*(ze ks k).sp/((yr:Int):Rat))→Calls prog 51 #[.pointer (some ⟨pc,0,none⟩),.pointer (some ⟨x,0,none⟩)] W fun e w'=>∃ zb,e=.returned (.pointer (some ⟨zb,0,none⟩))∧za w' zb (dbS ks ((yr:Int):Rat) (k+1))∧But [] W w'):=fun W x hb hx=>zcl pc x _ _ W ((ic.but bV).but hb) hx ((s3 k (by omega)).mono (by omega)) ((l3 k hlt).mono (by omega))
   have BV:=af (iw.trans' bV)
   have HV2:=af hV
   clear r1 r2 r3 lc lm lp l1 l2a l2 l3a l3 s1 s2 s3 ly y0 yn ia ib ic iw bV hV HI S0
   go_wp2_with fail
   rw[← ae HV2,← hgk]
   clear HV2 hgk c1 c2 c3
   refine (ae M1 _ (But.refl _ _)).mono ?_
   rintro e w2 ⟨x1,rfl,h2,hb2⟩
   have N2:=af (ae A1 _ _ hb2 h2)
   have B2:=af hb2
   clear h2 hb2 M1 A1
   go_wp2_with fail
   refine (ae N2).mono ?_
   rintro e w3 ⟨qa,rfl,h3,hb3⟩
   have B3:=af ((ae B2).trans' hb3)
   have Q3:=af h3
   clear h3 hb3 N2 B2
   replace k0:=(ae B3).ag k0 (by simp)
   replace k1:=(ae B3).ag k1 (by simp)
   replace k2:=(ae B3).ag k2 (by simp)
   go_wp2_with fail
   refine linear_region6 6 _ _ w3 gk g1 g2 g3 pb ((ze ks k).me*(ze ks k).me) ((ze ks k).ch*((ze ks k).me*(ze ks k).me)) (sqS ks (k+1)) (by simp) (by simp[Act.eval]) (by simp[Act.eval]) k0 k1 k2 (fun W hb=>ae M2 W ((ae B3).trans' hb)) (fun W x hb=>ae M3 W x ((ae B3).trans' hb)) (fun W x hb=>ae A2 W x ((ae B3).trans' hb)) ?_
   intro y1 y2 qb w4 hP
   simp only[bi,List.foldl_cons,List.foldl_nil,Act.put,List.setIfInBounds_toArray,List.set_cons_zero,List.set_cons_succ]
   have B4:=af ((ae B3).trans' hP.mem)
   have Q4:=af (And.intro ((ae Q3).but hP.mem) (hP.f9 rfl))
   replace k0:=hP.mem.ag k0 (by simp)
   replace k2:=hP.mem.ag k2 (by simp)
   clear hP M2 M3 A2 B3 Q3 k1
   go_wp2_with fail
   refine (ae M4 _ (ae B4)).mono ?_
   rintro e w5 ⟨x5,rfl,h5,hb5⟩
   have B5:=af ((ae B4).trans' hb5)
   have Q5:=af (And.intro h5 (And.intro ((ae Q4).1.but hb5) ((ae Q4).2.but hb5)))
   clear h5 hb5 B4 Q4 M4 k0 k2
   go_wp2_with fail
   refine (ae IY _).mono ?_
   rintro e w6 ⟨x6,rfl,h6,hb6⟩
   have B6:=af ((ae B5).trans' hb6)
   have N6:=af (ae D4 _ _ _ (ae B6) ((ae Q5).1.but hb6) h6)
   have Q6:=af (And.intro ((ae Q5).2.1.but hb6) ((ae Q5).2.2.but hb6))
   clear h6 hb6 B5 Q5 D4
   go_wp2_with fail
   refine (ae N6).mono ?_
   rintro e w7 ⟨x7,rfl,h7,hb7⟩
   have B7:=af ((ae B6).trans' hb7)
   have N7:=af (ae A4 _ _ (ae B7) h7)
   have Q7:=af (And.intro ((ae Q6).1.but hb7) ((ae Q6).2.but hb7))
   clear h7 hb7 B6 Q6 N6 A4
   go_wp2_with fail
   refine (ae N7).mono ?_
   rintro e w8 ⟨qc,rfl,h8,hb8⟩
   have NS:Hid (za w8 qa (meS ks (k+1))∧za w8 qb (sqS ks (k+1))∧za w8 qc (dbS ks ((yr:Int):Rat) (k+1))∧But [] w w8):=⟨(ae Q7).1.but hb8,(ae Q7).2.but hb8,h8,(ae BV).trans' ((ae B7).trans' hb8)⟩
   clear h8 hb8 B7 Q7 N7 BV
   go_wp2
   exact⟨⟨k+1,qa,qb,qc,by omega,by go_num,rfl,rfl,rfl,ae NS⟩,by simp[intOf];omega⟩
  ·obtain rfl:k=n:=by omega
   obtain⟨ia,ib,ic,iw⟩:=ae HI
   obtain⟨s1,s2,s3⟩:=ae HS
   have t1:=(s1 k (Nat.le_refl _))
   have t2:=(s2 k (Nat.le_refl _))
   have t3:=(s3 k (Nat.le_refl _))
   have hown:Hid (ownL ks ((yr:Int):Rat)=qR (sqS ks k-meS ks k*meS ks k) ((sqS ks k+dbS ks ((yr:Int):Rat) k)-meS ks k*meS ks k)):=by show _=_;rw[ae HN];rfl
   have lo:=ae HO
   generalize hEo:ownL ks ((yr:Int):Rat)=own at lo hown
   generalize hEm:meS ks k=m at ia t1 hown
   generalize sqS ks k=mm at ib t2 hown
   generalize dbS ks ((yr:Int):Rat) k=v at ic t3 hown
   have HEo:=af hEo
   have HEm:=af hEm
   clear hEo hEm
   have lmm:qg (m*m) 4001:=(t1.mul t1).mono (by omega)
   have l4:qg (mm-m*m) 20000:=(t2.sub lmm).mono (by omega)
   have l5:qg (mm+v) 20000:=(t2.add t3).mono (by omega)
   have l6:qg ((mm+v)-m*m) 50000:=(l5.sub lmm).mono (by omega)
   have MU:Hid (∀ W,But [] wr W→Calls prog 42 #[.pointer (some ⟨pa,0,none⟩),.pointer (some ⟨pa,0,none⟩)] W fun e w'=>∃ zb,e=.returned (.pointer (some ⟨zb,0,none⟩))∧za w' zb (m*m)∧But [] W w'):=fun W hb=>tu pa pa _ _ W (ia.but hb) (ia.but hb) (t1.mono (by omega)) (t1.mono (by omega))
   have SU:Hid (∀ W x,But [] wr W→za W x (m*m)→Calls prog 47 #[.pointer (some ⟨pb,0,none⟩),.pointer (some ⟨x,0,none⟩)] W fun e w'=>∃ zb,e=.returned (.pointer (some ⟨zb,0,none⟩))∧za w' zb (mm-m*m)∧But [] W w'):=fun W x hb hx=>refSubQ pb x _ _ W (ib.but hb) hx (t2.mono (by omega)) (lmm.mono (by omega))
   have AD:Hid (∀ W,But [] wr W→Calls prog 51 #[.pointer (some ⟨pb,0,none⟩),.pointer (some ⟨pc,0,none⟩)] W fun e w'=>∃ zb,e=.returned (.pointer (some ⟨zb,0,none⟩))∧za w' zb (mm+v)∧But [] W w'):=fun W hb=>zcl pb pc _ _ W (ib.but hb) (ic.but hb) (t2.mono (by omega)) (t3.mono (by omega))
   have SV:Hid (∀ W x y,za W x (mm+v)→za W y (m*m)→Calls prog 47 #[.pointer (some ⟨x,0,none⟩),.pointer (some ⟨y,0,none⟩)] W fun e w'=>∃ zb,e=.returned (.pointer (some ⟨zb,0,none⟩))∧za w' zb ((mm+v)-m*m)∧But [] W w'):=fun W x y hx hy=>refSubQ x y _ _ W hx hy (l5.mono (by omega)) (lmm.mono (by omega))
   have DV:Hid (∀ W x y,za W x (mm-m*m)→za W y ((mm+v)-m*m)→Calls prog 59 #[.pointer (some ⟨x,0,none⟩),.pointer (some ⟨y,0,none⟩)] W fun e w'=>∃ zb,e=.returned (.pointer (some ⟨zb,0,none⟩))∧zdt w' zb own∧But [] W w'):=fun W x y hx hy=>by rw[ae hown];exact refDivA x y _ _ W (.inl hx) hy (l4.mono (by omega)) (l6.mono (by omega))
   have SO:Hid (∀ W x y,za W x ((1:Int):Rat)→zdt W y own→Calls prog 47 #[.pointer (some ⟨x,0,none⟩),.pointer (some ⟨y,0,none⟩)] W fun e w'=>∃ zb,e=.returned (.pointer (some ⟨zb,0,none⟩))∧za w' zb (((1:Int):Rat)-own)∧But [] W w'):=fun W x y hx hy=>refSubS x y _ _ W hx hy ((qg.int (by decide)).mono (by omega)) (lo.mono (by omega))
   have lone:qg (((1:Int):Rat)-own) 300000:=((qg.int (z:=1) (by decide)).sub lo).mono (by omega)
   have MO:Hid (∀ W y,But [] wr W→za W y (((1:Int):Rat)-own)→Calls prog 42 #[.pointer (some ⟨pa,0,none⟩),.pointer (some ⟨y,0,none⟩)] W fun e w'=>∃ zb,e=.returned (.pointer (some ⟨zb,0,none⟩))∧za w' zb (m*(((1:Int):Rat)-own))∧But [] W w'):=fun W y hb hy=>tu pa y _ _ W (ia.but hb) hy (t1.mono (by omega)) (lone.mono (by omega))
   have IW:=af iw
   clear ia ib ic iw s1 s2 s3 t1 t2 t3 lmm l4 l5 l6 lo lone HI HS HL HV HY HO HN hown IY
   go_wp2_with fail
   refine (ae MU _ (But.refl _ _)).mono ?_
   rintro e w2 ⟨x2,rfl,h2,hb2⟩
   have N2:=af (ae SU _ _ hb2 h2)
   have B2:=af hb2
   clear h2 hb2 SU
   go_wp2_with fail
   refine (ae N2).mono ?_
   rintro e w3 ⟨x3,rfl,h3,hb3⟩
   have B3:=af (And.intro ((ae B2).trans' hb3) h3)
   clear h3 hb3 N2 B2
   go_wp2_with fail
   refine (ae AD _ (ae B3).1).mono ?_
   rintro e w4 ⟨x4,rfl,h4,hb4⟩
   have B4:=af (And.intro ((ae B3).1.trans' hb4) (And.intro ((ae B3).2.but hb4) h4))
   clear h4 hb4 B3 AD
   go_wp2_with fail
   refine (ae MU _ (ae B4).1).mono ?_
   rintro e w5 ⟨x5,rfl,h5,hb5⟩
   have N5:=af (ae SV _ _ _ ((ae B4).2.2.but hb5) h5)
   have B5:=af (And.intro ((ae B4).1.trans' hb5) ((ae B4).2.1.but hb5))
   clear h5 hb5 B4 MU SV
   go_wp2_with fail
   refine (ae N5).mono ?_
   rintro e w6 ⟨x6,rfl,h6,hb6⟩
   have N6:=af (ae DV _ _ _ ((ae B5).2.but hb6) h6)
   have B6:=af ((ae B5).1.trans' hb6)
   clear h6 hb6 B5 N5 DV
   go_wp2_with fail
   refine (ae N6).mono ?_
   rintro e w7 ⟨x7,rfl,h7,hb7⟩
   have B7:=af (And.intro ((ae B6).trans' hb7) h7)
   clear h7 hb7 B6 N6
   go_wp2_with fail
   refine (ae I1 _).mono ?_
   rintro e w8 ⟨x8,rfl,h8,hb8⟩
   have N8:=af (ae SO _ _ _ h8 ((ae B7).2.but hb8))
   have B8:=af (And.intro ((ae B7).1.trans' hb8) ((ae B7).2.but hb8))
   clear h8 hb8 B7 SO I1
   go_wp2_with fail
   refine (ae N8).mono ?_
   rintro e w9 ⟨x9,rfl,h9,hb9⟩
   have B9:=af (And.intro ((ae B8).1.trans' hb9) ((ae B8).2.but hb9))
   have N9:=af (ae MO _ _ (ae B9).1 h9)
   clear h9 hb9 B8 N8 MO
   go_wp2_with fail
   refine (ae N9).mono ?_
   rintro e wa ⟨xa,rfl,ha,hba⟩
   have F:=af (And.intro ha (And.intro ((ae B9).2.but hba) ((ae IW).trans' ((ae B9).1.trans' hba))))
   clear ha hba B9 N9 IW
   go_wp2
   exact bodyPost_ret (v:=.tuple #[.pointer (some ⟨xa,0,none⟩),.pointer (some ⟨x7,0,none⟩)]) (by simp[results,results17,go_sem]) rfl ⟨xa,x7,rfl,by rw[ae HEo,ae HEm];exact (ae F).1,by rw[ae HEo];exact (ae F).2.1,(ae F).2.2⟩
theorem refAmiss_ok (v:Value) (ks:List Kd) (yr:Int) (bb bo:Nat) (base own:Rat) (w:World) (hv:RKAt w v ks) (h40:ks.length≤40) (hy1:1≤yr) (hy2:yr≤120) (lc:∀ j,j<ks.length→Len (ze ks j).ch 1) (lm:∀ j,j<ks.length→Len (ze ks j).me 1) (lp:∀ j,j<ks.length→Len (ze ks j).sp 1) (hb:za w bb base) (ho:za w bo own) (lb:Len base 1) (lo:Len own 1) :
  Calls prog 18 #[v,.int .i64 yr,.pointer (some ⟨bb,0,none⟩),.pointer (some ⟨bo,0,none⟩)] w fun e w'=>∃ zb,e=.returned (.pointer (some ⟨zb,0,none⟩))∧za w' zb (amS ks ((yr:Int):Rat) base own ks.length)∧But [] w w':=by
 have ly:qg ((yr:Int):Rat) 2:=qg.int (by omega)
 have y0:(((yr:Int):Rat)).num≠0:=by rw[Rat.num_intCast];omega
 have yn:((yr:Int):Rat)≠0:=fun e=>y0 (by rw[e];rfl)
 have ub:=z8 lb
 have uo:=z8 lo
 have loo:qg (own*own) 4:=(uo.mul uo).mono (by omega)
 have l1:∀ j,j<ks.length→qg (own*(ze ks j).me) 4:=fun j hj=>(uo.mul (z8 (lm j hj))).mono (by omega)
 have l2:∀ j,j<ks.length→qg (base+own*(ze ks j).me) 8:=fun j hj=>(ub.add (l1 j hj)).mono (by omega)
 have l3:∀ j,j<ks.length→qg ((own*own)*(ze ks j).sp) 8:=fun j hj=>(loo.mul (z8 (lp j hj))).mono (by omega)
 have l4:∀ j,j<ks.length→qg ((own*own)*(ze ks j).sp/((yr:Int):Rat)) 12:=fun j hj=>((l3 j hj).div ly y0).mono (by omega)
 have l5:∀ j,j<ks.length→qg ((base+own*(ze ks j).me)-(ze ks j).me) 12:=fun j hj=>((l2 j hj).sub (z8 (lm j hj))).mono (by omega)
 have l6:∀ j,j<ks.length→qg (((base+own*(ze ks j).me)-(ze ks j).me)*((base+own*(ze ks j).me)-(ze ks j).me)) 24:=fun j hj=>((l5 j hj).mul (l5 j hj)).mono (by omega)
 have l7:∀ j,j<ks.length→qg ((own*own)*(ze ks j).sp/((yr:Int):Rat)+((base+own*(ze ks j).me)-(ze ks j).me)*((base+own*(ze ks j).me)-(ze ks j).me)) 40:=fun j hj=>((l4 j hj).add (l6 j hj)).mono (by omega)
 have l8:∀ j,j<ks.length→qg ((ze ks j).ch*((own*own)*(ze ks j).sp/((yr:Int):Rat)+((base+own*(ze ks j).me)-(ze ks j).me)*((base+own*(ze ks j).me)-(ze ks j).me))) 44:=fun j hj=>((z8 (lc j hj)).mul (l7 j hj)).mono (by omega)
 have s1:∀ k,k≤ks.length→qg (amS ks ((yr:Int):Rat) base own k) 4000:=fun k hk=>(zgm (F:=fun j=>(ze ks j).ch*((own*own)*(ze ks j).sp/((yr:Int):Rat)+((base+own*(ze ks j).me)-(ze ks j).me)*((base+own*(ze ks j).me)-(ze ks j).me))) (c:=44) k (fun j hj=>l8 j (by omega))).mono (by have:k*45≤40*45:=Nat.mul_le_mul_right _ (by omega);omega)
 have I0:Hid (∀ W,Calls prog 16 #[.int .i64 0] W fun e w'=>∃ zb,e=.returned (.pointer (some ⟨zb,0,none⟩))∧za w' zb (((0:Int):Rat))∧But [] W w'):=fun W=>zck 0 W (by omega) (by omega)
 have IY:Hid (∀ W,Calls prog 16 #[.int .i64 yr] W fun e w'=>∃ zb,e=.returned (.pointer (some ⟨zb,0,none⟩))∧za w' zb (((yr:Int):Rat))∧But [] W w'):=fun W=>zck yr W (by omega) (by omega)
 obtain⟨a,cap,rfl,hcap,hV⟩:=rk_cells hv
 have HV:=af hV
 have HL:=af (And.intro lc (And.intro lm (And.intro lp (And.intro l1 (And.intro l2 (And.intro l3 (And.intro l4 (And.intro l5 (And.intro l6 (And.intro l7 (And.intro l8 s1)))))))))))
 have HY:=af (And.intro ly (And.intro y0 (And.intro yn (And.intro ub (And.intro uo loo)))))
 have HB:=af (And.intro hb ho)
 clear hV hv lc lm lp l1 l2 l3 l4 l5 l6 l7 l8 s1 ly y0 yn ub uo loo hb ho lb lo
 obtain⟨n,hnn⟩:∃ n,n=ks.length:=⟨_,rfl⟩
 rw[← hnn] at h40 hcap HV HL
 rw[← hnn]
 clear hnn
 go_enter func18,ntmps18
 go_wp2_with fail
 refine (ae I0 _).mono ?_
 rintro e w1 ⟨ga,rfl,ha,hb1⟩
 have S3:Hid (za w1 ga (amS ks ((yr:Int):Rat) base own 0)∧But [] w w1):=⟨ha,hb1⟩
 clear ha hb1 I0
 go_wp2
 go_loopw [9,18] (fun p i wr=>∃ (k pa:Nat),k≤n∧i=.int .i64 (k:Int)∧p=.pointer (some ⟨pa,0,none⟩)∧Hid (za wr pa (amS ks ((yr:Int):Rat) base own k)∧But [] w wr)) (fun _ i _=>n-(intOf i).toNat)
 case atStart=>exact⟨0,ga,Nat.zero_le _,rfl,rfl,ae S3⟩
 case round =>
  obtain⟨k,pa,hk,rfl,rfl,HI⟩:=hrel
  rename World=>wr
  clear S3
  by_cases hlt:k<n
  ·obtain⟨ia,iw⟩:=ae HI
   obtain⟨b,off,g1,g2,g3,rfl,c1,c2,c3,r1,r2,r3⟩:=ae HV wr iw k hlt
   obtain⟨V,hV⟩:∃ V,V=wr.alloc (.cells #[.pointer (some ⟨g1,0,none⟩),.pointer (some ⟨g2,0,none⟩),.pointer (some ⟨g3,0,none⟩)] 47):=⟨_,rfl⟩
   obtain⟨gk,hgk⟩:∃ g,g=wr.heap.size:=⟨_,rfl⟩
   have bV:But [] wr V:=by rw[hV];exact (But.refl _ _).alloc _
   have k0:V.cell? ⟨gk,0,none⟩=some (.pointer (some ⟨g1,0,none⟩)):=by rw[hV,hgk];simp
   have k1:V.cell? ⟨gk,1,none⟩=some (.pointer (some ⟨g2,0,none⟩)):=by rw[hV,hgk];simp
   have k2:V.cell? ⟨gk,2,none⟩=some (.pointer (some ⟨g3,0,none⟩)):=by rw[hV,hgk];simp
   have vb:=(ae HB).1.but (iw.trans' bV)
   have vo:=(ae HB).2.but (iw.trans' bV)
   obtain⟨lc,lm,lp,l1,l2,l3,l4,l5,l6,l7,l8,s1⟩:=ae HL
   obtain⟨ly,y0,yn,ub,uo,loo⟩:=ae HY
   obtain⟨me,hme⟩:∃ me,me=(ze ks k).me:=⟨_,rfl⟩
   obtain⟨sp,hsp⟩:∃ sp,sp=(ze ks k).sp:=⟨_,rfl⟩
   obtain⟨ch,hch⟩:∃ ch,ch=(ze ks k).ch:=⟨_,rfl⟩
   replace l1:=l1 k hlt
   replace l2:=l2 k hlt
   replace l3:=l3 k hlt
   replace l4:=l4 k hlt
   replace l5:=l5 k hlt
   replace l6:=l6 k hlt
   replace l7:=l7 k hlt
   replace l8:=l8 k hlt
   replace lc:=z8 (lc k hlt)
   replace lm:=z8 (lm k hlt)
   replace lp:=z8 (lp k hlt)
   have ls:=s1 k (by omega)
   have hnext:Hid (amS ks ((yr:Int):Rat) base own k+ch*((own*own)*sp/((yr:Int):Rat)+((base+own*me)-me)*((base+own*me)-me))=amS ks ((yr:Int):Rat) base own (k+1)):=by show _=_;rw[hme,hsp,hch];rfl
   rw[← hme] at l1 l2 l5 l6 l7 l8 lm r2
   rw[← hsp] at l3 l4 l7 l8 lp r3
   rw[← hch] at l8 lc r1
   have M1:Hid (∀ W,But [] V W→Calls prog 42 #[.pointer (some ⟨bo,0,none⟩),.pointer (some ⟨g2,0,none⟩)] W fun e w'=>∃ zb,e=.returned (.pointer (some ⟨zb,0,none⟩))∧za w' zb (own*me)∧But [] W w'):=fun W hb=>tu bo g2 _ _ W (vo.but hb) ((r2.but bV).but hb) (uo.mono (by omega)) (lm.mono (by omega))
   have A1:Hid (∀ W x,But [] V W→za W x (own*me)→Calls prog 51 #[.pointer (some ⟨bb,0,none⟩),.pointer (some ⟨x,0,none⟩)] W fun e w'=>∃ zb,e=.returned (.pointer (some ⟨zb,0,none⟩))∧za w' zb (base+own*me)∧But [] W w'):=fun W x hb hx=>zcl bb x _ _ W (vb.but hb) hx (ub.mono (by omega)) (l1.mono (by omega))
   have M2:Hid (∀ W,But [] V W→Calls prog 42 #[.pointer (some ⟨bo,0,none⟩),.pointer (some ⟨bo,0,none⟩)] W fun e w'=>∃ zb,e=.returned (.pointer (some ⟨zb,0,none⟩))∧za w' zb (own*own)∧But [] W w'):=fun W hb=>tu bo bo _ _ W (vo.but hb) (vo.but hb) (uo.mono (by omega)) (uo.mono (by omega))
   have M3:Hid (∀ W x,But [] V W→za W x (own*own)→Calls prog 42 #[.pointer (some ⟨x,0,none⟩),.pointer (some ⟨g3,0,none⟩)] W fun e w'=>∃ zb,e=.returned (.pointer (some ⟨zb,0,none⟩))∧za w' zb ((own*own)*sp)∧But [] W w'):=fun W x hb hx=>tu x g3 _ _ W hx ((r3.but bV).but hb) (loo.mono (by omega)) (lp.mono (by omega))
   have D3:Hid (∀ W x y,But [] V W→za W x ((own*own)*sp)→za W y ((yr:Int):Rat)→Calls prog 59 #[.pointer (some ⟨x,0,none⟩),.pointer (some ⟨y,0,none⟩)] W fun e w'=>∃ zb,e=.returned (.pointer (some ⟨zb,0,none⟩))∧za w' zb ((own*own)*sp/((yr:Int):Rat))∧But [] W w'):=fun W x y hb hx hy=>refDivQ x y _ _ _ W hx hy (l3.mono (by omega)) (ly.mono (by omega)) y0 (Rat.div_mul_cancel yn)
   have S4:Hid (∀ W x,But [] V W→za W x (base+own*me)→Calls prog 47 #[.pointer (some ⟨x,0,none⟩),.pointer (some ⟨g2,0,none⟩)] W fun e w'=>∃ zb,e=.returned (.pointer (some ⟨zb,0,none⟩))∧za w' zb ((base+own*me)-me)∧But [] W w'):=fun W x hb hx=>refSubQ x g2 _ _ W hx ((r2.but bV).but hb) (l2.mono (by omega)) (lm.mono (by omega))
   have M5:Hid (∀ W x,za W x ((base+own*me)-me)→Calls prog 42 #[.pointer (some ⟨x,0,none⟩),.pointer (some ⟨x,0,none⟩)] W fun e w'=>∃ zb,e=.returned (.pointer (some ⟨zb,0,none⟩))∧za w' zb (((base+own*me)-me)*((base+own*me)-me))∧But [] W w'):=fun W x hx=>tu x x _ _ W hx hx (l5.mono (by omega)) (l5.mono (by omega))
   have A5:Hid (∀ W x y,za W x ((own*own)*sp/((yr:Int):Rat))→za W y (((base+own*me)-me)*((base+own*me)-me))→Calls prog 51 #[.pointer (some ⟨x,0,none⟩),.pointer (some ⟨y,0,none⟩)] W fun e w'=>∃ zb,e=.returned (.pointer (some ⟨zb,0,none⟩))∧za w' zb ((own*own)*sp/((yr:Int):Rat)+((base+own*me)-me)*((base+own*me)-me))∧But [] W w'):=fun W x y hx hy=>zcl x y _ _ W hx hy (l4.mono (by omega)) (l6.mono (by omega))
   have M6:Hid (∀ W x,But [] V W→za W x ((own*own)*sp/((yr:Int):Rat)+((base+own*me)-me)*((base+own*me)-me))→Calls prog 42 #[.pointer (some ⟨g1,0,none⟩),.pointer (some ⟨x,0,none⟩)] W fun e w'=>∃ zb,e=.returned (.pointer (some ⟨zb,0,none⟩))∧za w' zb (ch*((own*own)*sp/((yr:Int):Rat)+((base+own*me)-me)*((base+own*me)-me)))∧But [] W w'):=fun W x hb hx=>tu g1 x _ _ W ((r1.but bV).but hb) hx (lc.mono (by omega)) (l7.mono (by omega))
   have A6:Hid (∀ W x,But [] V W→za W x (ch*((own*own)*sp/((yr:Int):Rat)+((base+own*me)-me)*((base+own*me)-me)))→Calls prog 51 #[.pointer (some ⟨pa,0,none⟩),.pointer (some ⟨x,0,none⟩)] W fun e w'=>∃ zb,e=.returned (.pointer (some ⟨zb,0,none⟩))∧za w' zb (amS ks ((yr:Int):Rat) base own (k+1))∧But [] W w'):=fun W x hb hx=>by
    rw[← ae hnext]
    exact zcl pa x _ _ W ((ia.but bV).but hb) hx (ls.mono (by omega)) (l8.mono (by omega))
   have BV:=af (iw.trans' bV)
   have HV2:=af hV
   clear r1 r2 r3 lc lm lp l1 l2 l3 l4 l5 l6 l7 l8 s1 ls ly y0 yn ub uo loo ia iw bV hV HI vb vo hnext hme hsp hch
   go_wp2_with fail
   rw[← ae HV2,← hgk]
   clear HV2 hgk c1 c2 c3
   refine (ae M1 _ (But.refl _ _)).mono ?_
   rintro e w2 ⟨x1,rfl,h2,hb2⟩
   have N2:=af (ae A1 _ _ hb2 h2)
   have B2:=af hb2
   clear h2 hb2 M1 A1
   go_wp2_with fail
   refine (ae N2).mono ?_
   rintro e w3 ⟨gs,rfl,h3,hb3⟩
   have B3:=af ((ae B2).trans' hb3)
   have Q3:=af h3
   clear h3 hb3 N2 B2
   replace k0:=(ae B3).ag k0 (by simp)
   replace k1:=(ae B3).ag k1 (by simp)
   replace k2:=(ae B3).ag k2 (by simp)
   go_wp2_with fail
   refine amiss_region6 6 _ _ w3 gk g1 g2 g3 bo yr (own*own) ((own*own)*sp) ((yr:Int):Rat) ((own*own)*sp/((yr:Int):Rat)) (by simp) (by simp[Act.eval]) (by simp[Act.eval]) (by simp[Act.eval]) k0 k1 k2 (fun W hb=>ae M2 W ((ae B3).trans' hb)) (fun W x hb=>ae M3 W x ((ae B3).trans' hb)) (fun W=>ae IY W) (fun W x y hb=>ae D3 W x y ((ae B3).trans' hb)) ?_
   intro y1 y2 y3 gv w4 hP
   simp only[bi,List.foldl_cons,List.foldl_nil,Act.put,List.setIfInBounds_toArray,List.set_cons_zero,List.set_cons_succ]
   have B4:=af ((ae B3).trans' hP.mem)
   have Q4:=af (And.intro ((ae Q3).but hP.mem) (hP.f8 rfl))
   replace k0:=hP.mem.ag k0 (by simp)
   replace k1:=hP.mem.ag k1 (by simp)
   replace k2:=hP.mem.ag k2 (by simp)
   clear hP M2 M3 D3 B3 Q3
   go_wp2_with fail
   refine (ae S4 _ _ (ae B4) (ae Q4).1).mono ?_
   rintro e w5 ⟨gd,rfl,h5,hb5⟩
   have B5:=af ((ae B4).trans' hb5)
   have Q5:=af (And.intro h5 ((ae Q4).2.but hb5))
   replace k0:=hb5.ag k0 (by simp)
   replace k1:=hb5.ag k1 (by simp)
   replace k2:=hb5.ag k2 (by simp)
   clear h5 hb5 B4 Q4 S4
   go_wp2_with fail
   refine amiss_region8 8 _ _ w5 gk g1 g2 g3 pa gv gd (((base+own*me)-me)*((base+own*me)-me)) ((own*own)*sp/((yr:Int):Rat)+((base+own*me)-me)*((base+own*me)-me)) (ch*((own*own)*sp/((yr:Int):Rat)+((base+own*me)-me)*((base+own*me)-me))) (amS ks ((yr:Int):Rat) base own (k+1)) (by simp) (by simp[Act.eval]) (by simp[Act.eval]) (by simp[Act.eval]) (by simp[Act.eval]) k0 k1 k2 (fun W hb=>ae M5 W gd ((ae Q5).1.but hb)) (fun W x hb hx=>ae A5 W gv x ((ae Q5).2.but hb) hx) (fun W x hb=>ae M6 W x ((ae B5).trans' hb)) (fun W x hb=>ae A6 W x ((ae B5).trans' hb)) ?_
   intro z1 z2 z3 gz w6 hP
   simp only[bi,List.foldl_cons,List.foldl_nil,Act.put,List.setIfInBounds_toArray,List.set_cons_zero,List.set_cons_succ]
   have NS:Hid (za w6 gz (amS ks ((yr:Int):Rat) base own (k+1))∧But [] w w6):=⟨hP.f9 rfl,(ae BV).trans' ((ae B5).trans' hP.mem)⟩
   clear hP B5 Q5 M5 A5 M6 A6 BV k0 k1 k2
   go_wp2
   exact⟨⟨k+1,gz,by omega,by go_num,rfl,ae NS⟩,by simp[intOf];omega⟩
  ·obtain rfl:k=n:=by omega
   go_wp2
   go_ret
   exact⟨pa,rfl,ae HI⟩
end Go.Proofs.YtffghofheeleeaaGreatDoor
