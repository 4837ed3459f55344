/- Kinds of risks, as the reference reckons -/
import Derived.Test.YtffghofheeleeaaGreatDoorKJH
import Derived.Test.YtffghofheeleeaaGreatDoorKKLb
namespace Go.Proofs.YtffghofheeleeaaGreatDoor
open Go.Proofs.Tryz
open Go.RowKit
set_option maxHeartbeats 16000000
set_option maxRecDepth 100000
set_option linter.unusedVariables false
def RKAt (w:World) (v:Value) (ks:List Kd):Prop:=∃ a cap,v=.slice a ks.length cap∧ks.length≤cap∧∀ i,i<ks.length→∃ b off g1 g2 g3,a=some ⟨b,off,none⟩∧w.cell? ⟨b,off+i*3,none⟩=some (.pointer (some ⟨g1,0,none⟩))∧w.cell? ⟨b,off+i*3+1,none⟩=some (.pointer (some ⟨g2,0,none⟩))∧w.cell? ⟨b,off+i*3+2,none⟩=some (.pointer (some ⟨g3,0,none⟩))∧za w g1 (ze ks i).ch∧za w g2 (ze ks i).me∧za w g3 (ze ks i).sp
theorem RKAt.but {w w':World} {v:Value} {ks:List Kd} (h:RKAt w v ks) (hb:But [] w w'):RKAt w' v ks:=by
 obtain⟨a,cap,e,hc,h⟩:=h
 refine⟨a,cap,e,hc,fun i hi=>?_⟩
 obtain⟨b,off,g1,g2,g3,e1,c1,c2,c3,r1,r2,r3⟩:=h i hi
 exact⟨b,off,g1,g2,g3,e1,hb.ag c1 (by simp),hb.ag c2 (by simp),hb.ag c3 (by simp),r1.but hb,r2.but hb,r3.but hb⟩
theorem rk_cells {w:World} {v:Value} {ks:List Kd} (hv:RKAt w v ks):∃ a cap,v=.slice a ks.length cap∧ks.length≤cap∧∀ W,But [] w W→∀ i,i<ks.length→∃ b off g1 g2 g3,a=some ⟨b,off,none⟩∧W.cell? ⟨b,off+i*3,none⟩=some (.pointer (some ⟨g1,0,none⟩))∧W.cell? ⟨b,off+i*3+1,none⟩=some (.pointer (some ⟨g2,0,none⟩))∧W.cell? ⟨b,off+i*3+2,none⟩=some (.pointer (some ⟨g3,0,none⟩))∧za W g1 (ze ks i).ch∧za W g2 (ze ks i).me∧za W g3 (ze ks i).sp:=by
 obtain⟨a,cap,e,hc,-⟩:=id hv
 refine⟨a,cap,e,hc,fun W hb i hi=>?_⟩
 obtain⟨a',cap',e',-,h⟩:=hv.but hb
 rw[e] at e'
 simp only[Value.slice.injEq] at e'
 obtain⟨rfl,-,-⟩:=e'
 exact h i hi
def chS (ks:List Kd):Nat→Rat:=sgR (fun j=>(ze ks j).ch)
theorem chS_is (ks:List Kd):∀ n,chS ks n=mkR ks (fun _=>((1:Int):Rat)) n
 | 0=>rfl
 | n+1=>by
  have ih:=chS_is ks n
  show chS ks n+(ze ks n).ch=mkR ks (fun _=>((1:Int):Rat)) n+(ze ks n).ch*1
  rw[ih,Rat.mul_one]
theorem kinds_limit (a:Option Addr) (n c:Nat) (yr:Int) (w:World) (hn:n<1∨1≤n∧40<n) :
  Calls prog 13 #[.slice a n c,.int .i64 yr] w fun e w'=>e=.returned (.int .i64 4)∧But [] w w':=by
 have bw:But [] w w:=But.refl _ _
 rcases hn with h|⟨h1,h2⟩
 ·go_enter func13,ntmps13
  go_wp2
  go_ret
  exact⟨rfl,bw⟩
 ·go_enter func13,ntmps13
  have h3:¬ n<1:=by omega
  go_wp2
  go_ret
  exact⟨rfl,bw⟩
theorem kinds_loop (v:Value) (ks:List Kd) (yr:Int) (z:Int) (m:Nat) (w:World) (hv:RKAt w v ks) (h1:1≤ks.length) (h40:ks.length≤40) (lc:∀ j,j<ks.length→Len (ze ks j).ch 1) (lp:∀ j,j<ks.length→Len (ze ks j).sp 1) (hm:m≤ks.length) (hgood:∀ j,j<m→0≤(ze ks j).ch.num∧0≤(ze ks j).sp.num)
  (hend:(m<ks.length∧((ze ks m).ch.num<0∨(0≤(ze ks m).ch.num∧(ze ks m).sp.num<0))∧z=1)∨(m=ks.length∧((chS ks ks.length≠((1:Int):Rat)∧z=10)∨(chS ks ks.length=((1:Int):Rat)∧((yr<1∧z=2)∨(1≤yr∧120<yr∧z=2)∨(1≤yr∧yr≤120∧z=0)))))) :
  Calls prog 13 #[v,.int .i64 yr] w fun e w'=>e=.returned (.int .i64 z)∧But [] w w':=by
 have lS:∀ k,k≤ks.length→qg (chS ks k) 1000:=fun k hk=>(zgm (F:=fun j=>(ze ks j).ch) (c:=4) k (fun j hj=>(z8 (lc j (by omega))).mono (by omega))).mono (by have:k*5≤40*5:=Nat.mul_le_mul_right _ (by omega);omega)
 have I0:Hid (∀ W,Calls prog 16 #[.int .i64 0] W fun e w'=>∃ zb,e=.returned (.pointer (some ⟨zb,0,none⟩))∧za w' zb (((0:Int):Rat))∧But [] W w'):=fun W=>zck 0 W (by omega) (by omega)
 have I1:Hid (∀ W,Calls prog 16 #[.int .i64 1] W fun e w'=>∃ zb,e=.returned (.pointer (some ⟨zb,0,none⟩))∧za w' zb (((1:Int):Rat))∧But [] W w'):=fun W=>zck 1 W (by omega) (by omega)
 obtain⟨a,cap,rfl,hcap,hV⟩:=rk_cells hv
 have HV:=af hV
 have HL:=af (And.intro lc (And.intro lp lS))
 have HG:=af hgood
 have HE:=af hend
 clear hV hv lc lp lS hgood hend
 obtain⟨n,hnn⟩:∃ n,n=ks.length:=⟨_,rfl⟩
 rw[← hnn] at h1 h40 hm hcap HV HL HE
 rw[← hnn]
 clear hnn
 have hn1:¬ n<1:=by omega
 go_enter func13,ntmps13
 go_wp2_with fail
 refine (ae I0 _).mono ?_
 rintro e w1 ⟨g0,rfl,hz,hb1⟩
 have S0:Hid (za w1 g0 (chS ks 0)∧But [] w w1):=⟨hz,hb1⟩
 clear hz hb1 I0
 go_wp2
 go_loopw [5,19] (fun p i wr=>∃ (k pb:Nat),k≤m∧i=.int .i64 (k:Int)∧p=.pointer (some ⟨pb,0,none⟩)∧Hid (za wr pb (chS ks k)∧But [] w wr)) (fun _ i _=>n-(intOf i).toNat)
 case atStart=>exact⟨0,g0,Nat.zero_le _,rfl,rfl,ae S0⟩
 case round =>
  obtain⟨k,pb,hk,rfl,rfl,HI⟩:=hrel
  rename World=>wr
  clear S0
  by_cases hlt:k<n
  ·obtain⟨b,off,g1,g2,g3,rfl,c1,c2,c3,r1,r2,r3⟩:=ae HV wr (ae HI).2 k hlt
   obtain⟨V,hV⟩:∃ V,V=wr.alloc (.cells #[.pointer (some ⟨g1,0,none⟩),.pointer (some ⟨g2,0,none⟩),.pointer (some ⟨g3,0,none⟩)] 47):=⟨_,rfl⟩
   obtain⟨gk,hgk⟩:∃ g,g=wr.heap.size:=⟨_,rfl⟩
   have bV:But [] wr V:=by rw[hV];exact (But.refl _ _).alloc _
   have k0:V.cell? ⟨gk,0,none⟩=some (.pointer (some ⟨g1,0,none⟩)):=by rw[hV,hgk];simp
   have k2:V.cell? ⟨gk,2,none⟩=some (.pointer (some ⟨g3,0,none⟩)):=by rw[hV,hgk];simp
   obtain⟨lc,lp,lS⟩:=ae HL
   obtain⟨s1,hs1⟩:∃ s,s=(ze ks k).ch.num.sign:=⟨_,rfl⟩
   obtain⟨s3,hs3⟩:∃ s,s=(ze ks k).sp.num.sign:=⟨_,rfl⟩
   have SA:Hid (∀ W,But [] V W→Calls prog 50 #[.pointer (some ⟨g1,0,none⟩)] W fun e w'=>e=.returned (.int .i64 s1)∧But [] W w'):=fun W hb=>refSignQ g1 _ W ((r1.but bV).but hb) s1 hs1 ((z8 (lc k hlt)).mono (by omega))
   have SB:Hid (∀ W,But [] V W→Calls prog 50 #[.pointer (some ⟨g3,0,none⟩)] W fun e w'=>e=.returned (.int .i64 s3)∧But [] W w'):=fun W hb=>refSignQ g3 _ W ((r3.but bV).but hb) s3 hs3 ((z8 (lp k hlt)).mono (by omega))
   have AD:Hid (∀ W,But [] V W→Calls prog 51 #[.pointer (some ⟨pb,0,none⟩),.pointer (some ⟨g1,0,none⟩)] W fun e w'=>∃ zb,e=.returned (.pointer (some ⟨zb,0,none⟩))∧za w' zb (chS ks (k+1))∧But [] W w'):=fun W hb=>zcl pb g1 _ _ W (((ae HI).1.but bV).but hb) ((r1.but bV).but hb) ((lS k (by omega)).mono (by omega)) ((z8 (lc k hlt)).mono (by omega))
   have BV:=af ((ae HI).2.trans' bV)
   have HV2:=af hV
   clear r1 r2 r3 lc lp lS bV hV
   by_cases hkm:k<m
   ·have hg:=ae HG k hkm
    have p1:0≤s1:=by rw[hs1];exact Int.sign_nonneg_iff.2 hg.1
    have p3:0≤s3:=by rw[hs3];exact Int.sign_nonneg_iff.2 hg.2
    clear hs1 hs3 hg
    go_wp2_with fail
    rw[← ae HV2,← hgk]
    clear HV2 hgk c1 c2 c3
    refine (ae SA _ (But.refl _ _)).mono ?_
    rintro e w2 ⟨rfl,hb2⟩
    replace k0:=hb2.ag k0 (by simp)
    replace k2:=hb2.ag k2 (by simp)
    have B2:=af hb2
    clear hb2 SA
    go_wp2_with fail
    refine (ae SB _ (ae B2)).mono ?_
    rintro e w3 ⟨rfl,hb3⟩
    replace k0:=hb3.ag k0 (by simp)
    have B3:=af ((ae B2).trans' hb3)
    clear hb3 SB B2 k2
    go_wp2_with fail
    refine (ae AD _ (ae B3)).mono ?_
    rintro e w4 ⟨g4,rfl,h4,hb4⟩
    have NS:Hid (za w4 g4 (chS ks (k+1))∧But [] w w4):=⟨h4,(ae BV).trans' ((ae B3).trans' hb4)⟩
    clear h4 hb4 AD B3 BV k0
    go_wp2
    exact⟨⟨k+1,g4,by omega,by go_num,rfl,ae NS⟩,by simp[intOf];omega⟩
   ·obtain rfl:k=m:=by omega
    rcases ae HE with ⟨-,hneg,rfl⟩|⟨e,-⟩
    ·rcases hneg with hneg|⟨hnn,hneg⟩
     ·have p1:s1<0:=by rw[hs1,Int.sign_eq_neg_one_of_neg hneg];decide
      clear hs1 hs3 hneg
      go_wp2_with fail
      rw[← ae HV2,← hgk]
      clear HV2 hgk c1 c2 c3
      refine (ae SA _ (But.refl _ _)).mono ?_
      rintro e w2 ⟨rfl,hb2⟩
      have B2:=af ((ae BV).trans' hb2)
      clear hb2 SA BV
      go_wp2
      go_ret
      exact⟨rfl,ae B2⟩
     ·have p1:0≤s1:=by rw[hs1];exact Int.sign_nonneg_iff.2 hnn
      have p3:s3<0:=by rw[hs3,Int.sign_eq_neg_one_of_neg hneg];decide
      clear hs1 hs3 hneg hnn
      go_wp2_with fail
      rw[← ae HV2,← hgk]
      clear HV2 hgk c1 c2 c3
      refine (ae SA _ (But.refl _ _)).mono ?_
      rintro e w2 ⟨rfl,hb2⟩
      replace k2:=hb2.ag k2 (by simp)
      have B2:=af hb2
      clear hb2 SA
      go_wp2_with fail
      refine (ae SB _ (ae B2)).mono ?_
      rintro e w3 ⟨rfl,hb3⟩
      have B3:=af ((ae BV).trans' ((ae B2).trans' hb3))
      clear hb3 SB B2 BV k2
      go_wp2
      go_ret
      exact⟨rfl,ae B3⟩
    ·omega
  ·obtain rfl:k=n:=by omega
   have hmn:m=k:=by omega
   have HE2:Hid ((chS ks k≠((1:Int):Rat)∧z=10)∨(chS ks k=((1:Int):Rat)∧((yr<1∧z=2)∨(1≤yr∧120<yr∧z=2)∨(1≤yr∧yr≤120∧z=0)))):=by
    rcases ae HE with ⟨h,-⟩|⟨-,h⟩
    ·omega
    ·exact h
   have CM:Hid (∀ W b,But [] wr W→za W b ((1:Int):Rat)→Calls prog 48 #[.pointer (some ⟨pb,0,none⟩),.pointer (some ⟨b,0,none⟩)] W fun e w'=>∃ c,e=.returned (.int .i64 c)∧(c<0↔chS ks k<((1:Int):Rat))∧(0<c↔((1:Int):Rat)<chS ks k)∧(c=0↔chS ks k=((1:Int):Rat))∧But [] W w'):=fun W b hb h=>refCmpQ pb b _ _ W ((ae HI).1.but hb) h (((ae HL).2.2 k (Nat.le_refl _)).mono (by omega)) ((qg.int (by decide)).mono (by omega))
   clear HE HG HL HV hm hmn
   go_wp2_with fail
   refine (ae I1 _).mono ?_
   rintro e w2 ⟨g1,rfl,h1',hb2⟩
   have C2:=af (ae CM _ _ hb2 h1')
   have B2:=af ((ae HI).2.trans' hb2)
   clear h1' hb2 CM HI I1
   go_wp2_with fail
   refine (ae C2).mono ?_
   rintro e w3 ⟨c,rfl,-,-,hc,hb3⟩
   have B3:=af ((ae B2).trans' hb3)
   clear hb3 B2 C2
   rcases ae HE2 with ⟨hne,rfl⟩|⟨heq,hy⟩
   ·have c0:(c != 0)=true:=by simpa using fun h=>hne (hc.1 h)
    clear hc HE2 hne
    go_wp2
    go_ret
    exact⟨rfl,ae B3⟩
   ·have c0:c=0:=hc.2 heq
    subst c0
    clear hc HE2 heq
    rcases hy with ⟨hy,rfl⟩|⟨hy1,hy2,rfl⟩|⟨hy1,hy2,rfl⟩
    ·go_wp2
     go_ret
     exact⟨rfl,ae B3⟩
    ·have hy3:¬ yr<1:=by omega
     go_wp2
     go_ret
     exact⟨rfl,ae B3⟩
    ·have hy3:¬ yr<1:=by omega
     have hy4:¬ yr > 120:=by omega
     go_wp2
     go_ret
     exact⟨rfl,ae B3⟩
end Go.Proofs.YtffghofheeleeaaGreatDoor
