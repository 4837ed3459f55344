/- Kinds of risks, as the reference reckons -/
import Derived.Test.YtffghofheeleeaaGreatDoorKKLaqL
import Derived.Test.YtffghofheeleeaaGreatDoorKKLbqL
namespace Go.Proofs.YtffghofheeleeaaGreatDoor
open Go.Proofs.Tryz
open Go.RowKit
set_option maxHeartbeats 32000000
set_option maxRecDepth 100000
set_option linter.unusedVariables false
def zmm (w:World) (v:Value) (ks:List Kd):Prop:=∃ a cap,v=.slice a ks.length cap∧ks.length≤cap∧∀ i,i<ks.length→∃ b off g1 g2 g3,a=some ⟨b,off,none⟩∧w.cell? ⟨b,off+i*3,none⟩=some (.pointer (some ⟨g1,0,none⟩))∧w.cell? ⟨b,off+i*3+1,none⟩=some (.pointer (some ⟨g2,0,none⟩))∧w.cell? ⟨b,off+i*3+2,none⟩=some (.pointer (some ⟨g3,0,none⟩))∧za w g1 (ze ks i).ch∧za w g2 (ze ks i).me∧za w g3 (ze ks i).sp
theorem zmm.but {w w':World} {v:Value} {ks:List Kd} (h:zmm w v ks) (hb:But [] w w'):zmm w' v ks:=by
 obtain⟨a,cap,e,hc,h⟩:=h
 refine⟨a,cap,e,hc,fun i hi=>?_⟩
 obtain⟨b,off,g1,g2,g3,e1,c1,c2,c3,r1,r2,r3⟩:=h i hi
 exact⟨b,off,g1,g2,g3,e1,hb.ag c1 (by simp),hb.ag c2 (by simp),hb.ag c3 (by simp),r1.but hb,r2.but hb,r3.but hb⟩
theorem zqo {w:World} {v:Value} {ks:List Kd} (hv:zmm w v ks):∃ a cap,v=.slice a ks.length cap∧ks.length≤cap∧∀ W,But [] w W→∀ i,i<ks.length→∃ b off g1 g2 g3,a=some ⟨b,off,none⟩∧W.cell? ⟨b,off+i*3,none⟩=some (.pointer (some ⟨g1,0,none⟩))∧W.cell? ⟨b,off+i*3+1,none⟩=some (.pointer (some ⟨g2,0,none⟩))∧W.cell? ⟨b,off+i*3+2,none⟩=some (.pointer (some ⟨g3,0,none⟩))∧za W g1 (ze ks i).ch∧za W g2 (ze ks i).me∧za W g3 (ze ks i).sp:=by
 obtain⟨a,cap,e,hc,-⟩:=id hv
 refine⟨a,cap,e,hc,fun W hb i hi=>?_⟩
 obtain⟨a',cap',e',-,h⟩:=hv.but hb
 rw[e] at e'
 simp only[Value.slice.injEq] at e'
 obtain⟨rfl,-,-⟩:=e'
 exact h i hi
def chS (ks:List Kd):Nat→Rat:=sgR (fun j=>(ze ks j).ch)
theorem qop (ks:List Kd):∀ n,chS ks n=mkR ks (fun _=>((1:Int):Rat)) n
 | 0=>rfl
 | n+1=>by
  have ih:=qop ks n
  show chS ks n+(ze ks n).ch=mkR ks (fun _=>((1:Int):Rat)) n+(ze ks n).ch*1
  rw[ih,Rat.mul_one]
theorem qaw (a:Option Addr) (n c:Nat) (yr:Int) (w:World) (hn:n<1∨1≤n∧40<n) :
  Calls prog 13 #[.slice a n c,.int .i64 yr] w fun e w'=>e=.returned (.int .i64 4)∧But [] w w':=by
 have bw:But [] w w:=But.refl _ _
 rcases hn with h|⟨h1,h2⟩
 ·go_enter func13,ntmps13
  go_wp2
  go_ret
  exact⟨rfl,bw⟩
 ·go_enter func13,ntmps13
  have h3:¬ n<1:=by omega
  go_wp2
  go_ret
  exact⟨rfl,bw⟩
theorem zrw (v:Value) (ks:List Kd) (yr:Int) (z:Int) (m:Nat) (w:World) (hv:zmm w v ks) (h1:1≤ks.length) (h40:ks.length≤40) (lc:∀ j,j<ks.length→Len (ze ks j).ch 1) (lp:∀ j,j<ks.length→Len (ze ks j).sp 1) (hm:m≤ks.length) (hgood:∀ j,j<m→0≤(ze ks j).ch.num∧0≤(ze ks j).sp.num)
  (hend:(m<ks.length∧((ze ks m).ch.num<0∨(0≤(ze ks m).ch.num∧(ze ks m).sp.num<0))∧z=1)∨(m=ks.length∧((chS ks ks.length≠((1:Int):Rat)∧z=10)∨(chS ks ks.length=((1:Int):Rat)∧((yr<1∧z=2)∨(1≤yr∧120<yr∧z=2)∨(1≤yr∧yr≤120∧z=0)))))) :
  Calls prog 13 #[v,.int .i64 yr] w fun e w'=>e=.returned (.int .i64 z)∧But [] w w':=by
 have lS:∀ k,k≤ks.length→zu (chS ks k) 1000:=fun k hk=>(zbx (F:=fun j=>(ze ks j).ch) (c:=4) k (fun j hj=>(zo (lc j (by omega))).mono (by omega))).mono (by have:k*5≤40*5:=Nat.mul_le_mul_right _ (by omega);omega)
 have I0:Hid (∀ W,Calls prog 16 #[.int .i64 0] W fun e w'=>∃ zb,e=.returned (.pointer (some ⟨zb,0,none⟩))∧za w' zb (((0:Int):Rat))∧But [] W w'):=fun W=>rf 0 W (by omega) (by omega)
 have I1:Hid (∀ W,Calls prog 16 #[.int .i64 1] W fun e w'=>∃ zb,e=.returned (.pointer (some ⟨zb,0,none⟩))∧za w' zb (((1:Int):Rat))∧But [] W w'):=fun W=>rf 1 W (by omega) (by omega)
 obtain⟨a,cap,rfl,hcap,hV⟩:=zqo hv
 have HV:=af hV
 have HL:=af (And.intro lc (And.intro lp lS))
 have HG:=af hgood
 have HE:=af hend
 clear hV hv lc lp lS hgood hend
 obtain⟨n,hnn⟩:∃ n,n=ks.length:=⟨_,rfl⟩
 rw[← hnn] at h1 h40 hm hcap HV HL HE
 rw[← hnn]
 clear hnn
 have hn1:¬ n<1:=by omega
 go_enter func13,ntmps13
 go_wp2_with fail
 refine (ae I0 _).mono ?_
 rintro e w1 ⟨g0,rfl,hz,hb1⟩
 have S0:Hid (za w1 g0 (chS ks 0)∧But [] w w1):=⟨hz,hb1⟩
 clear hz hb1 I0
 go_wp2
 go_loopw [5,19] (fun p i wr=>∃ (k pb:Nat),k≤m∧i=.int .i64 (k:Int)∧p=.pointer (some ⟨pb,0,none⟩)∧Hid (za wr pb (chS ks k)∧But [] w wr)) (fun _ i _=>n-(intOf i).toNat)
 case atStart=>exact⟨0,g0,Nat.zero_le _,rfl,rfl,ae S0⟩
 case round =>
  obtain⟨k,pb,hk,rfl,rfl,HI⟩:=hrel
  rename World=>wr
  clear S0
  by_cases hlt:k<n
  ·obtain⟨b,off,g1,g2,g3,rfl,c1,c2,c3,r1,r2,r3⟩:=ae HV wr (ae HI).2 k hlt
   obtain⟨V,hV⟩:∃ V,V=wr.alloc (.cells #[.pointer (some ⟨g1,0,none⟩),.pointer (some ⟨g2,0,none⟩),.pointer (some ⟨g3,0,none⟩)] 47):=⟨_,rfl⟩
   obtain⟨gk,hgk⟩:∃ g,g=wr.heap.size:=⟨_,rfl⟩
   have bV:But [] wr V:=by rw[hV];exact (But.refl _ _).alloc _
   have k0:V.cell? ⟨gk,0,none⟩=some (.pointer (some ⟨g1,0,none⟩)):=by rw[hV,hgk];simp
   have k2:V.cell? ⟨gk,2,none⟩=some (.pointer (some ⟨g3,0,none⟩)):=by rw[hV,hgk];simp
   obtain⟨lc,lp,lS⟩:=ae HL
   obtain⟨s1,hs1⟩:∃ s,s=(ze ks k).ch.num.sign:=⟨_,rfl⟩
   obtain⟨s3,hs3⟩:∃ s,s=(ze ks k).sp.num.sign:=⟨_,rfl⟩
   have SA:Hid (∀ W,But [] V W→Calls prog 50 #[.pointer (some ⟨g1,0,none⟩)] W fun e w'=>e=.returned (.int .i64 s1)∧But [] W w'):=fun W hb=>zih g1 _ W ((r1.but bV).but hb) s1 hs1 ((zo (lc k hlt)).mono (by omega))
   have SB:Hid (∀ W,But [] V W→Calls prog 50 #[.pointer (some ⟨g3,0,none⟩)] W fun e w'=>e=.returned (.int .i64 s3)∧But [] W w'):=fun W hb=>zih g3 _ W ((r3.but bV).but hb) s3 hs3 ((zo (lp k hlt)).mono (by omega))
   have AD:Hid (∀ W,But [] V W→Calls prog 51 #[.pointer (some ⟨pb,0,none⟩),.pointer (some ⟨g1,0,none⟩)] W fun e w'=>∃ zb,e=.returned (.pointer (some ⟨zb,0,none⟩))∧za w' zb (chS ks (k+1))∧But [] W w'):=fun W hb=>zai pb g1 _ _ W (((ae HI).1.but bV).but hb) ((r1.but bV).but hb) ((lS k (by omega)).mono (by omega)) ((zo (lc k hlt)).mono (by omega))
   have BV:=af ((ae HI).2.trans' bV)
   have HV2:=af hV
   clear r1 r2 r3 lc lp lS bV hV
   by_cases hkm:k<m
   ·have hg:=ae HG k hkm
    have p1:0≤s1:=by rw[hs1];exact Int.sign_nonneg_iff.2 hg.1
    have p3:0≤s3:=by rw[hs3];exact Int.sign_nonneg_iff.2 hg.2
    clear hs1 hs3 hg
    go_wp2_with fail
    rw[← ae HV2,← hgk]
    clear HV2 hgk c1 c2 c3
    refine (ae SA _ (But.refl _ _)).mono ?_
    rintro e w2 ⟨rfl,hb2⟩
    replace k0:=hb2.ag k0 (by simp)
    replace k2:=hb2.ag k2 (by simp)
    have B2:=af hb2
    clear hb2 SA
    go_wp2_with fail
    refine (ae SB _ (ae B2)).mono ?_
    rintro e w3 ⟨rfl,hb3⟩
    replace k0:=hb3.ag k0 (by simp)
    have B3:=af ((ae B2).trans' hb3)
    clear hb3 SB B2 k2
    go_wp2_with fail
    refine (ae AD _ (ae B3)).mono ?_
    rintro e w4 ⟨g4,rfl,h4,hb4⟩
    have NS:Hid (za w4 g4 (chS ks (k+1))∧But [] w w4):=⟨h4,(ae BV).trans' ((ae B3).trans' hb4)⟩
    clear h4 hb4 AD B3 BV k0
    go_wp2
    exact⟨⟨k+1,g4,by omega,by go_num,rfl,ae NS⟩,by simp[intOf];omega⟩
   ·obtain rfl:k=m:=by omega
    rcases ae HE with ⟨-,hneg,rfl⟩|⟨e,-⟩
    ·rcases hneg with hneg|⟨hnn,hneg⟩
     ·have p1:s1<0:=by rw[hs1,Int.sign_eq_neg_one_of_neg hneg];decide
      clear hs1 hs3 hneg
      go_wp2_with fail
      rw[← ae HV2,← hgk]
      clear HV2 hgk c1 c2 c3
      refine (ae SA _ (But.refl _ _)).mono ?_
      rintro e w2 ⟨rfl,hb2⟩
      have B2:=af ((ae BV).trans' hb2)
      clear hb2 SA BV
      go_wp2
      go_ret
      exact⟨rfl,ae B2⟩
     ·have p1:0≤s1:=by rw[hs1];exact Int.sign_nonneg_iff.2 hnn
      have p3:s3<0:=by rw[hs3,Int.sign_eq_neg_one_of_neg hneg];decide
      clear hs1 hs3 hneg hnn
      go_wp2_with fail
      rw[← ae HV2,← hgk]
      clear HV2 hgk c1 c2 c3
      refine (ae SA _ (But.refl _ _)).mono ?_
      rintro e w2 ⟨rfl,hb2⟩
      replace k2:=hb2.ag k2 (by simp)
      have B2:=af hb2
      clear hb2 SA
      go_wp2_with fail
      refine (ae SB _ (ae B2)).mono ?_
      rintro e w3 ⟨rfl,hb3⟩
      have B3:=af ((ae BV).trans' ((ae B2).trans' hb3))
      clear hb3 SB B2 BV k2
      go_wp2
      go_ret
      exact⟨rfl,ae B3⟩
    ·omega
  ·obtain rfl:k=n:=by omega
   have hmn:m=k:=by omega
   have HE2:Hid ((chS ks k≠((1:Int):Rat)∧z=10)∨(chS ks k=((1:Int):Rat)∧((yr<1∧z=2)∨(1≤yr∧120<yr∧z=2)∨(1≤yr∧yr≤120∧z=0)))):=by
    rcases ae HE with ⟨h,-⟩|⟨-,h⟩
    ·omega
    ·exact h
   have CM:Hid (∀ W b,But [] wr W→za W b ((1:Int):Rat)→Calls prog 48 #[.pointer (some ⟨pb,0,none⟩),.pointer (some ⟨b,0,none⟩)] W fun e w'=>∃ c,e=.returned (.int .i64 c)∧(c<0↔chS ks k<((1:Int):Rat))∧(0<c↔((1:Int):Rat)<chS ks k)∧(c=0↔chS ks k=((1:Int):Rat))∧But [] W w'):=fun W b hb h=>qqp pb b _ _ W ((ae HI).1.but hb) h (((ae HL).2.2 k (Nat.le_refl _)).mono (by omega)) ((zu.int (by decide)).mono (by omega))
   clear HE HG HL HV hm hmn
   go_wp2_with fail
   refine (ae I1 _).mono ?_
   rintro e w2 ⟨g1,rfl,h1',hb2⟩
   have C2:=af (ae CM _ _ hb2 h1')
   have B2:=af ((ae HI).2.trans' hb2)
   clear h1' hb2 CM HI I1
   go_wp2_with fail
   refine (ae C2).mono ?_
   rintro e w3 ⟨c,rfl,-,-,hc,hb3⟩
   have B3:=af ((ae B2).trans' hb3)
   clear hb3 B2 C2
   rcases ae HE2 with ⟨hne,rfl⟩|⟨heq,hy⟩
   ·have c0:(c != 0)=true:=by simpa using fun h=>hne (hc.1 h)
    clear hc HE2 hne
    go_wp2
    go_ret
    exact⟨rfl,ae B3⟩
   ·have c0:c=0:=hc.2 heq
    subst c0
    clear hc HE2 heq
    rcases hy with ⟨hy,rfl⟩|⟨hy1,hy2,rfl⟩|⟨hy1,hy2,rfl⟩
    ·go_wp2
     go_ret
     exact⟨rfl,ae B3⟩
    ·have hy3:¬ yr<1:=by omega
     go_wp2
     go_ret
     exact⟨rfl,ae B3⟩
    ·have hy3:¬ yr<1:=by omega
     have hy4:¬ yr > 120:=by omega
     go_wp2
     go_ret
     exact⟨rfl,ae B3⟩
def meS (ks:List Kd):Nat→Rat:=mkR ks (fun k=>k.me)
def sqS (ks:List Kd):Nat→Rat:=mkR ks (fun k=>k.me*k.me)
def qgw (ks:List Kd) (y:Rat):Rat:=qR (sqS ks ks.length-meS ks ks.length*meS ks ks.length) ((sqS ks ks.length+dbS ks y ks.length)-meS ks ks.length*meS ks ks.length)
theorem zu.div {f g:Rat} {m n:Nat} (hf:zu f m) (hg:zu g n) (h0:g.num≠0):zu (f/g) (m+n):=by
 have hq:(f/g)*g=f:=Rat.div_mul_cancel (fun e=>h0 (by rw[e];rfl))
 have d1:(wd 4294967296 ((f.den:Nat):Int).natAbs).length≤m:=by rw[Int.natAbs_natCast];exact hf.2
 have d2:(wd 4294967296 ((g.den:Nat):Int).natAbs).length≤n:=by rw[Int.natAbs_natCast];exact hg.2
 exact zpp (f/g) (f.num*(g.den:Int)) ((f.den:Int)*g.num) (m+n) (Int.mul_ne_zero (by have:=f.den_nz;omega) h0) (zva f g (f/g) hq) (qy _ _ m n hf.1 d2) (qy _ _ m n d1 hg.1)
theorem zvy (v:Value) (ks:List Kd) (yr:Int) (w:World) (hv:zmm w v ks) (h40:ks.length≤40) (hy1:1≤yr) (hy2:yr≤120) (lc:∀ j,j<ks.length→Len (ze ks j).ch 1) (lm:∀ j,j<ks.length→Len (ze ks j).me 1) (lp:∀ j,j<ks.length→Len (ze ks j).sp 1) (lo:zu (qgw ks ((yr:Int):Rat)) 100000) :
  Calls prog 17 #[v,.int .i64 yr] w fun e w'=>∃ b1 b2,e=.returned (.tuple #[.pointer (some ⟨b1,0,none⟩),.pointer (some ⟨b2,0,none⟩)])∧za w' b1 (meS ks ks.length*(((1:Int):Rat)-qgw ks ((yr:Int):Rat)))∧rz w' b2 (qgw ks ((yr:Int):Rat))∧But [] w w':=by
 have ly:zu ((yr:Int):Rat) 2:=zu.int (by omega)
 have y0:(((yr:Int):Rat)).num≠0:=by rw[Rat.num_intCast];omega
 have yn:((yr:Int):Rat)≠0:=fun e=>y0 (by rw[e];rfl)
 have l1:∀ j,j<ks.length→zu ((ze ks j).ch*(ze ks j).me) 12:=fun j hj=>((zo (lc j hj)).mul (zo (lm j hj))).mono (by omega)
 have l2a:∀ j,j<ks.length→zu ((ze ks j).me*(ze ks j).me) 12:=fun j hj=>((zo (lm j hj)).mul (zo (lm j hj))).mono (by omega)
 have l2:∀ j,j<ks.length→zu ((ze ks j).ch*((ze ks j).me*(ze ks j).me)) 24:=fun j hj=>((zo (lc j hj)).mul (l2a j hj)).mono (by omega)
 have l3a:∀ j,j<ks.length→zu ((ze ks j).ch*(ze ks j).sp) 12:=fun j hj=>((zo (lc j hj)).mul (zo (lp j hj))).mono (by omega)
 have l3:∀ j,j<ks.length→zu ((ze ks j).ch*(ze ks j).sp/((yr:Int):Rat)) 24:=fun j hj=>((l3a j hj).div ly y0).mono (by omega)
 have s1:∀ k,k≤ks.length→zu (meS ks k) 2000:=fun k hk=>(zbx (F:=fun j=>(ze ks j).ch*(ze ks j).me) (c:=12) k (fun j hj=>l1 j (by omega))).mono (by have:k*13≤40*13:=Nat.mul_le_mul_right _ (by omega);omega)
 have s2:∀ k,k≤ks.length→zu (sqS ks k) 2000:=fun k hk=>(zbx (F:=fun j=>(ze ks j).ch*((ze ks j).me*(ze ks j).me)) (c:=24) k (fun j hj=>l2 j (by omega))).mono (by have:k*25≤40*25:=Nat.mul_le_mul_right _ (by omega);omega)
 have s3:∀ k,k≤ks.length→zu (dbS ks ((yr:Int):Rat) k) 2000:=fun k hk=>(zbx (F:=fun j=>(ze ks j).ch*(ze ks j).sp/((yr:Int):Rat)) (c:=24) k (fun j hj=>l3 j (by omega))).mono (by have:k*25≤40*25:=Nat.mul_le_mul_right _ (by omega);omega)
 have I0:Hid (∀ W,Calls prog 16 #[.int .i64 0] W fun e w'=>∃ zb,e=.returned (.pointer (some ⟨zb,0,none⟩))∧za w' zb (((0:Int):Rat))∧But [] W w'):=fun W=>rf 0 W (by omega) (by omega)
 have I1:Hid (∀ W,Calls prog 16 #[.int .i64 1] W fun e w'=>∃ zb,e=.returned (.pointer (some ⟨zb,0,none⟩))∧za w' zb (((1:Int):Rat))∧But [] W w'):=fun W=>rf 1 W (by omega) (by omega)
 have IY:Hid (∀ W,Calls prog 16 #[.int .i64 yr] W fun e w'=>∃ zb,e=.returned (.pointer (some ⟨zb,0,none⟩))∧za w' zb (((yr:Int):Rat))∧But [] W w'):=fun W=>rf yr W (by omega) (by omega)
 obtain⟨a,cap,rfl,hcap,hV⟩:=zqo hv
 have HV:=af hV
 have HL:=af (And.intro lc (And.intro lm (And.intro lp (And.intro l1 (And.intro l2a (And.intro l2 (And.intro l3a l3)))))))
 have HS:=af (And.intro s1 (And.intro s2 s3))
 have HY:=af (And.intro ly (And.intro y0 yn))
 have HO:=af lo
 clear hV hv lc lm lp l1 l2a l2 l3a l3 s1 s2 s3 ly y0 yn lo
 obtain⟨n,hnn⟩:∃ n,n=ks.length:=⟨_,rfl⟩
 have HN:=af hnn
 rw[← hnn] at h40 hcap HV HL HS
 rw[← hnn]
 clear hnn
 go_enter func17,ntmps17
 go_wp2_with fail
 refine (ae I0 _).mono ?_
 rintro e w1 ⟨ga,rfl,ha,hb1⟩
 have S1:=af (And.intro ha hb1)
 clear ha hb1
 go_wp2_with fail
 refine (ae I0 _).mono ?_
 rintro e w2 ⟨gb,rfl,hb,hb2⟩
 have S2:=af (And.intro ((ae S1).1.but hb2) (And.intro hb ((ae S1).2.trans' hb2)))
 clear hb hb2 S1
 go_wp2_with fail
 refine (ae I0 _).mono ?_
 rintro e w3 ⟨gc,rfl,hc,hb3⟩
 have S3:Hid (za w3 ga (meS ks 0)∧za w3 gb (sqS ks 0)∧za w3 gc (dbS ks ((yr:Int):Rat) 0)∧But [] w w3):=⟨(ae S2).1.but hb3,(ae S2).2.1.but hb3,hc,(ae S2).2.2.trans' hb3⟩
 clear hc hb3 S2 I0
 go_wp2
 go_loopw [6,7,8,17] (fun p q r i wr=>∃ (k pa pb pc:Nat),k≤n∧i=.int .i64 (k:Int)∧p=.pointer (some ⟨pa,0,none⟩)∧q=.pointer (some ⟨pb,0,none⟩)∧r=.pointer (some ⟨pc,0,none⟩)∧Hid (za wr pa (meS ks k)∧za wr pb (sqS ks k)∧za wr pc (dbS ks ((yr:Int):Rat) k)∧But [] w wr)) (fun _ _ _ i _=>n-(intOf i).toNat)
 case atStart=>exact⟨0,ga,gb,gc,Nat.zero_le _,rfl,rfl,rfl,rfl,ae S3⟩
 case round =>
  obtain⟨k,pa,pb,pc,hk,rfl,rfl,rfl,rfl,HI⟩:=hrel
  rename World=>wr
  clear S3
  by_cases hlt:k<n
  ·obtain⟨ia,ib,ic,iw⟩:=ae HI
   obtain⟨b,off,g1,g2,g3,rfl,c1,c2,c3,r1,r2,r3⟩:=ae HV wr iw k hlt
   obtain⟨V,hV⟩:∃ V,V=wr.alloc (.cells #[.pointer (some ⟨g1,0,none⟩),.pointer (some ⟨g2,0,none⟩),.pointer (some ⟨g3,0,none⟩)] 47):=⟨_,rfl⟩
   obtain⟨gk,hgk⟩:∃ g,g=wr.heap.size:=⟨_,rfl⟩
   have bV:But [] wr V:=by rw[hV];exact (But.refl _ _).alloc _
   have k0:V.cell? ⟨gk,0,none⟩=some (.pointer (some ⟨g1,0,none⟩)):=by rw[hV,hgk];simp
   have k1:V.cell? ⟨gk,1,none⟩=some (.pointer (some ⟨g2,0,none⟩)):=by rw[hV,hgk];simp
   have k2:V.cell? ⟨gk,2,none⟩=some (.pointer (some ⟨g3,0,none⟩)):=by rw[hV,hgk];simp
   have S0:=af (And.intro (r1.but bV) (And.intro (r2.but bV) (And.intro (r3.but bV) (And.intro (ia.but bV) (And.intro (ib.but bV) (And.intro (ic.but bV) (iw.trans' bV)))))))
   obtain⟨lc,lm,lp,l1,l2a,l2,l3a,l3⟩:=ae HL
   obtain⟨s1,s2,s3⟩:=ae HS
   obtain⟨ly,y0,yn⟩:=ae HY
   have M1:Hid (∀ W,But [] V W→Calls prog 42 #[.pointer (some ⟨g1,0,none⟩),.pointer (some ⟨g2,0,none⟩)] W fun e w'=>∃ zb,e=.returned (.pointer (some ⟨zb,0,none⟩))∧za w' zb ((ze ks k).ch*(ze ks k).me)∧But [] W w'):=fun W hb=>pz g1 g2 _ _ W ((r1.but bV).but hb) ((r2.but bV).but hb) ((zo (lc k hlt)).mono (by omega)) ((zo (lm k hlt)).mono (by omega))
   have A1:Hid (∀ W x,But [] V W→za W x ((ze ks k).ch*(ze ks k).me)→Calls prog 51 #[.pointer (some ⟨pa,0,none⟩),.pointer (some ⟨x,0,none⟩)] W fun e w'=>∃ zb,e=.returned (.pointer (some ⟨zb,0,none⟩))∧za w' zb (meS ks (k+1))∧But [] W w'):=fun W x hb hx=>zai pa x _ _ W ((ia.but bV).but hb) hx ((s1 k (by omega)).mono (by omega)) ((l1 k hlt).mono (by omega))
   have M2:Hid (∀ W,But [] V W→Calls prog 42 #[.pointer (some ⟨g2,0,none⟩),.pointer (some ⟨g2,0,none⟩)] W fun e w'=>∃ zb,e=.returned (.pointer (some ⟨zb,0,none⟩))∧za w' zb ((ze ks k).me*(ze ks k).me)∧But [] W w'):=fun W hb=>pz g2 g2 _ _ W ((r2.but bV).but hb) ((r2.but bV).but hb) ((zo (lm k hlt)).mono (by omega)) ((zo (lm k hlt)).mono (by omega))
   have M3:Hid (∀ W x,But [] V W→za W x ((ze ks k).me*(ze ks k).me)→Calls prog 42 #[.pointer (some ⟨g1,0,none⟩),.pointer (some ⟨x,0,none⟩)] W fun e w'=>∃ zb,e=.returned (.pointer (some ⟨zb,0,none⟩))∧za w' zb ((ze ks k).ch*((ze ks k).me*(ze ks k).me))∧But [] W w'):=fun W x hb hx=>pz g1 x _ _ W ((r1.but bV).but hb) hx ((zo (lc k hlt)).mono (by omega)) ((l2a k hlt).mono (by omega))
   have A2:Hid (∀ W x,But [] V W→za W x ((ze ks k).ch*((ze ks k).me*(ze ks k).me))→Calls prog 51 #[.pointer (some ⟨pb,0,none⟩),.pointer (some ⟨x,0,none⟩)] W fun e w'=>∃ zb,e=.returned (.pointer (some ⟨zb,0,none⟩))∧za w' zb (sqS ks (k+1))∧But [] W w'):=fun W x hb hx=>zai pb x _ _ W ((ib.but bV).but hb) hx ((s2 k (by omega)).mono (by omega)) ((l2 k hlt).mono (by omega))
   have M4:Hid (∀ W,But [] V W→Calls prog 42 #[.pointer (some ⟨g1,0,none⟩),.pointer (some ⟨g3,0,none⟩)] W fun e w'=>∃ zb,e=.returned (.pointer (some ⟨zb,0,none⟩))∧za w' zb ((ze ks k).ch*(ze ks k).sp)∧But [] W w'):=fun W hb=>pz g1 g3 _ _ W ((r1.but bV).but hb) ((r3.but bV).but hb) ((zo (lc k hlt)).mono (by omega)) ((zo (lp k hlt)).mono (by omega))
   have D4:Hid (∀ W x y,But [] V W→za W x ((ze ks k).ch*(ze ks k).sp)→za W y ((yr:Int):Rat)→Calls prog 59 #[.pointer (some ⟨x,0,none⟩),.pointer (some ⟨y,0,none⟩)] W fun e w'=>∃ zb,e=.returned (.pointer (some ⟨zb,0,none⟩))∧za w' zb ((ze ks k).ch*(ze ks k).sp/((yr:Int):Rat))∧But [] W w'):=fun W x y hb hx hy=>zfn x y _ _ _ W hx hy ((l3a k hlt).mono (by omega)) (ly.mono (by omega)) y0 (Rat.div_mul_cancel yn)
   have A4:Hid (∀ W x,But [] V W→za W x ((ze ks k).ch*(ze ks k).sp/((yr:Int):Rat))→Calls prog 51 #[.pointer (some ⟨pc,0,none⟩),.pointer (some ⟨x,0,none⟩)] W fun e w'=>∃ zb,e=.returned (.pointer (some ⟨zb,0,none⟩))∧za w' zb (dbS ks ((yr:Int):Rat) (k+1))∧But [] W w'):=fun W x hb hx=>zai pc x _ _ W ((ic.but bV).but hb) hx ((s3 k (by omega)).mono (by omega)) ((l3 k hlt).mono (by omega))
   have BV:=af (iw.trans' bV)
   have HV2:=af hV
   clear r1 r2 r3 lc lm lp l1 l2a l2 l3a l3 s1 s2 s3 ly y0 yn ia ib ic iw bV hV HI S0
   go_wp2_with fail
   rw[← ae HV2,← hgk]
   clear HV2 hgk c1 c2 c3
   refine (ae M1 _ (But.refl _ _)).mono ?_
   rintro e w2 ⟨x1,rfl,h2,hb2⟩
   have N2:=af (ae A1 _ _ hb2 h2)
   have B2:=af hb2
   clear h2 hb2 M1 A1
   go_wp2_with fail
   refine (ae N2).mono ?_
   rintro e w3 ⟨qa,rfl,h3,hb3⟩
   have B3:=af ((ae B2).trans' hb3)
   have Q3:=af h3
   clear h3 hb3 N2 B2
   replace k0:=(ae B3).ag k0 (by simp)
   replace k1:=(ae B3).ag k1 (by simp)
   replace k2:=(ae B3).ag k2 (by simp)
   go_wp2_with fail
   refine zru 6 _ _ w3 gk g1 g2 g3 pb ((ze ks k).me*(ze ks k).me) ((ze ks k).ch*((ze ks k).me*(ze ks k).me)) (sqS ks (k+1)) (by simp) (by simp[Act.eval]) (by simp[Act.eval]) k0 k1 k2 (fun W hb=>ae M2 W ((ae B3).trans' hb)) (fun W x hb=>ae M3 W x ((ae B3).trans' hb)) (fun W x hb=>ae A2 W x ((ae B3).trans' hb)) ?_
   intro y1 y2 qb w4 hP
   simp only[bk,List.foldl_cons,List.foldl_nil,Act.put,List.setIfInBounds_toArray,List.set_cons_zero,List.set_cons_succ]
   have B4:=af ((ae B3).trans' hP.mem)
   have Q4:=af (And.intro ((ae Q3).but hP.mem) (hP.f9 rfl))
   replace k0:=hP.mem.ag k0 (by simp)
   replace k2:=hP.mem.ag k2 (by simp)
   clear hP M2 M3 A2 B3 Q3 k1
   go_wp2_with fail
   refine (ae M4 _ (ae B4)).mono ?_
   rintro e w5 ⟨x5,rfl,h5,hb5⟩
   have B5:=af ((ae B4).trans' hb5)
   have Q5:=af (And.intro h5 (And.intro ((ae Q4).1.but hb5) ((ae Q4).2.but hb5)))
   clear h5 hb5 B4 Q4 M4 k0 k2
   go_wp2_with fail
   refine (ae IY _).mono ?_
   rintro e w6 ⟨x6,rfl,h6,hb6⟩
   have B6:=af ((ae B5).trans' hb6)
   have N6:=af (ae D4 _ _ _ (ae B6) ((ae Q5).1.but hb6) h6)
   have Q6:=af (And.intro ((ae Q5).2.1.but hb6) ((ae Q5).2.2.but hb6))
   clear h6 hb6 B5 Q5 D4
   go_wp2_with fail
   refine (ae N6).mono ?_
   rintro e w7 ⟨x7,rfl,h7,hb7⟩
   have B7:=af ((ae B6).trans' hb7)
   have N7:=af (ae A4 _ _ (ae B7) h7)
   have Q7:=af (And.intro ((ae Q6).1.but hb7) ((ae Q6).2.but hb7))
   clear h7 hb7 B6 Q6 N6 A4
   go_wp2_with fail
   refine (ae N7).mono ?_
   rintro e w8 ⟨qc,rfl,h8,hb8⟩
   have NS:Hid (za w8 qa (meS ks (k+1))∧za w8 qb (sqS ks (k+1))∧za w8 qc (dbS ks ((yr:Int):Rat) (k+1))∧But [] w w8):=⟨(ae Q7).1.but hb8,(ae Q7).2.but hb8,h8,(ae BV).trans' ((ae B7).trans' hb8)⟩
   clear h8 hb8 B7 Q7 N7 BV
   go_wp2
   exact⟨⟨k+1,qa,qb,qc,by omega,by go_num,rfl,rfl,rfl,ae NS⟩,by simp[intOf];omega⟩
  ·obtain rfl:k=n:=by omega
   obtain⟨ia,ib,ic,iw⟩:=ae HI
   obtain⟨s1,s2,s3⟩:=ae HS
   have t1:=(s1 k (Nat.le_refl _))
   have t2:=(s2 k (Nat.le_refl _))
   have t3:=(s3 k (Nat.le_refl _))
   have hown:Hid (qgw ks ((yr:Int):Rat)=qR (sqS ks k-meS ks k*meS ks k) ((sqS ks k+dbS ks ((yr:Int):Rat) k)-meS ks k*meS ks k)):=by show _=_;rw[ae HN];rfl
   have lo:=ae HO
   generalize hEo:qgw ks ((yr:Int):Rat)=own at lo hown
   generalize hEm:meS ks k=m at ia t1 hown
   generalize sqS ks k=mm at ib t2 hown
   generalize dbS ks ((yr:Int):Rat) k=v at ic t3 hown
   have HEo:=af hEo
   have HEm:=af hEm
   clear hEo hEm
   have lmm:zu (m*m) 4001:=(t1.mul t1).mono (by omega)
   have l4:zu (mm-m*m) 20000:=(t2.sub lmm).mono (by omega)
   have l5:zu (mm+v) 20000:=(t2.add t3).mono (by omega)
   have l6:zu ((mm+v)-m*m) 50000:=(l5.sub lmm).mono (by omega)
   have MU:Hid (∀ W,But [] wr W→Calls prog 42 #[.pointer (some ⟨pa,0,none⟩),.pointer (some ⟨pa,0,none⟩)] W fun e w'=>∃ zb,e=.returned (.pointer (some ⟨zb,0,none⟩))∧za w' zb (m*m)∧But [] W w'):=fun W hb=>pz pa pa _ _ W (ia.but hb) (ia.but hb) (t1.mono (by omega)) (t1.mono (by omega))
   have SU:Hid (∀ W x,But [] wr W→za W x (m*m)→Calls prog 47 #[.pointer (some ⟨pb,0,none⟩),.pointer (some ⟨x,0,none⟩)] W fun e w'=>∃ zb,e=.returned (.pointer (some ⟨zb,0,none⟩))∧za w' zb (mm-m*m)∧But [] W w'):=fun W x hb hx=>zfm pb x _ _ W (ib.but hb) hx (t2.mono (by omega)) (lmm.mono (by omega))
   have AD:Hid (∀ W,But [] wr W→Calls prog 51 #[.pointer (some ⟨pb,0,none⟩),.pointer (some ⟨pc,0,none⟩)] W fun e w'=>∃ zb,e=.returned (.pointer (some ⟨zb,0,none⟩))∧za w' zb (mm+v)∧But [] W w'):=fun W hb=>zai pb pc _ _ W (ib.but hb) (ic.but hb) (t2.mono (by omega)) (t3.mono (by omega))
   have SV:Hid (∀ W x y,za W x (mm+v)→za W y (m*m)→Calls prog 47 #[.pointer (some ⟨x,0,none⟩),.pointer (some ⟨y,0,none⟩)] W fun e w'=>∃ zb,e=.returned (.pointer (some ⟨zb,0,none⟩))∧za w' zb ((mm+v)-m*m)∧But [] W w'):=fun W x y hx hy=>zfm x y _ _ W hx hy (l5.mono (by omega)) (lmm.mono (by omega))
   have DV:Hid (∀ W x y,za W x (mm-m*m)→za W y ((mm+v)-m*m)→Calls prog 59 #[.pointer (some ⟨x,0,none⟩),.pointer (some ⟨y,0,none⟩)] W fun e w'=>∃ zb,e=.returned (.pointer (some ⟨zb,0,none⟩))∧rz w' zb own∧But [] W w'):=fun W x y hx hy=>by rw[ae hown];exact qqo x y _ _ W (.inl hx) hy (l4.mono (by omega)) (l6.mono (by omega))
   have SO:Hid (∀ W x y,za W x ((1:Int):Rat)→rz W y own→Calls prog 47 #[.pointer (some ⟨x,0,none⟩),.pointer (some ⟨y,0,none⟩)] W fun e w'=>∃ zb,e=.returned (.pointer (some ⟨zb,0,none⟩))∧za w' zb (((1:Int):Rat)-own)∧But [] W w'):=fun W x y hx hy=>qqm x y _ _ W hx hy ((zu.int (by decide)).mono (by omega)) (lo.mono (by omega))
   have lone:zu (((1:Int):Rat)-own) 300000:=((zu.int (z:=1) (by decide)).sub lo).mono (by omega)
   have MO:Hid (∀ W y,But [] wr W→za W y (((1:Int):Rat)-own)→Calls prog 42 #[.pointer (some ⟨pa,0,none⟩),.pointer (some ⟨y,0,none⟩)] W fun e w'=>∃ zb,e=.returned (.pointer (some ⟨zb,0,none⟩))∧za w' zb (m*(((1:Int):Rat)-own))∧But [] W w'):=fun W y hb hy=>pz pa y _ _ W (ia.but hb) hy (t1.mono (by omega)) (lone.mono (by omega))
   have IW:=af iw
   clear ia ib ic iw s1 s2 s3 t1 t2 t3 lmm l4 l5 l6 lo lone HI HS HL HV HY HO HN hown IY
   go_wp2_with fail
   refine (ae MU _ (But.refl _ _)).mono ?_
   rintro e w2 ⟨x2,rfl,h2,hb2⟩
   have N2:=af (ae SU _ _ hb2 h2)
   have B2:=af hb2
   clear h2 hb2 SU
   go_wp2_with fail
   refine (ae N2).mono ?_
   rintro e w3 ⟨x3,rfl,h3,hb3⟩
   have B3:=af (And.intro ((ae B2).trans' hb3) h3)
   clear h3 hb3 N2 B2
   go_wp2_with fail
   refine (ae AD _ (ae B3).1).mono ?_
   rintro e w4 ⟨x4,rfl,h4,hb4⟩
   have B4:=af (And.intro ((ae B3).1.trans' hb4) (And.intro ((ae B3).2.but hb4) h4))
   clear h4 hb4 B3 AD
   go_wp2_with fail
   refine (ae MU _ (ae B4).1).mono ?_
   rintro e w5 ⟨x5,rfl,h5,hb5⟩
   have N5:=af (ae SV _ _ _ ((ae B4).2.2.but hb5) h5)
   have B5:=af (And.intro ((ae B4).1.trans' hb5) ((ae B4).2.1.but hb5))
   clear h5 hb5 B4 MU SV
   go_wp2_with fail
   refine (ae N5).mono ?_
   rintro e w6 ⟨x6,rfl,h6,hb6⟩
   have N6:=af (ae DV _ _ _ ((ae B5).2.but hb6) h6)
   have B6:=af ((ae B5).1.trans' hb6)
   clear h6 hb6 B5 N5 DV
   go_wp2_with fail
   refine (ae N6).mono ?_
   rintro e w7 ⟨x7,rfl,h7,hb7⟩
   have B7:=af (And.intro ((ae B6).trans' hb7) h7)
   clear h7 hb7 B6 N6
   go_wp2_with fail
   refine (ae I1 _).mono ?_
   rintro e w8 ⟨x8,rfl,h8,hb8⟩
   have N8:=af (ae SO _ _ _ h8 ((ae B7).2.but hb8))
   have B8:=af (And.intro ((ae B7).1.trans' hb8) ((ae B7).2.but hb8))
   clear h8 hb8 B7 SO I1
   go_wp2_with fail
   refine (ae N8).mono ?_
   rintro e w9 ⟨x9,rfl,h9,hb9⟩
   have B9:=af (And.intro ((ae B8).1.trans' hb9) ((ae B8).2.but hb9))
   have N9:=af (ae MO _ _ (ae B9).1 h9)
   clear h9 hb9 B8 N8 MO
   go_wp2_with fail
   refine (ae N9).mono ?_
   rintro e wa ⟨xa,rfl,ha,hba⟩
   have F:=af (And.intro ha (And.intro ((ae B9).2.but hba) ((ae IW).trans' ((ae B9).1.trans' hba))))
   clear ha hba B9 N9 IW
   go_wp2
   exact bodyPost_ret (v:=.tuple #[.pointer (some ⟨xa,0,none⟩),.pointer (some ⟨x7,0,none⟩)]) (by simp[results,results17,go_sem]) rfl ⟨xa,x7,rfl,by rw[ae HEo,ae HEm];exact (ae F).1,by rw[ae HEo];exact (ae F).2.1,(ae F).2.2⟩
end Go.Proofs.YtffghofheeleeaaGreatDoor
