/- What a line says amiss, as the reference -/
import Derived.Test.YtffghofheeleeaaGreatDoorKKLcqL
namespace Go.Proofs.YtffghofheeleeaaGreatDoor
open Go.Proofs.Tryz
open Go.RowKit
set_option maxHeartbeats 32000000
set_option maxRecDepth 100000
set_option linter.unusedVariables false
theorem zyv (v:Value) (ks:List Kd) (yr:Int) (bb bo:Nat) (base own:Rat) (w:World) (hv:zmm w v ks) (h40:ks.length≤40) (hy1:1≤yr) (hy2:yr≤120) (lc:∀ j,j<ks.length→Len (ze ks j).ch 1) (lm:∀ j,j<ks.length→Len (ze ks j).me 1) (lp:∀ j,j<ks.length→Len (ze ks j).sp 1) (hb:za w bb base) (ho:za w bo own) (lb:Len base 1) (lo:Len own 1) :
  Calls prog 18 #[v,.int .i64 yr,.pointer (some ⟨bb,0,none⟩),.pointer (some ⟨bo,0,none⟩)] w fun e w'=>∃ zb,e=.returned (.pointer (some ⟨zb,0,none⟩))∧za w' zb (amS ks ((yr:Int):Rat) base own ks.length)∧But [] w w':=by
 have ly:zu ((yr:Int):Rat) 2:=zu.int (by omega)
 have y0:(((yr:Int):Rat)).num≠0:=by rw[Rat.num_intCast];omega
 have yn:((yr:Int):Rat)≠0:=fun e=>y0 (by rw[e];rfl)
 have ub:=zo lb
 have uo:=zo lo
 have loo:zu (own*own) 4:=(uo.mul uo).mono (by omega)
 have l1:∀ j,j<ks.length→zu (own*(ze ks j).me) 4:=fun j hj=>(uo.mul (zo (lm j hj))).mono (by omega)
 have l2:∀ j,j<ks.length→zu (base+own*(ze ks j).me) 8:=fun j hj=>(ub.add (l1 j hj)).mono (by omega)
 have l3:∀ j,j<ks.length→zu ((own*own)*(ze ks j).sp) 8:=fun j hj=>(loo.mul (zo (lp j hj))).mono (by omega)
 have l4:∀ j,j<ks.length→zu ((own*own)*(ze ks j).sp/((yr:Int):Rat)) 12:=fun j hj=>((l3 j hj).div ly y0).mono (by omega)
 have l5:∀ j,j<ks.length→zu ((base+own*(ze ks j).me)-(ze ks j).me) 12:=fun j hj=>((l2 j hj).sub (zo (lm j hj))).mono (by omega)
 have l6:∀ j,j<ks.length→zu (((base+own*(ze ks j).me)-(ze ks j).me)*((base+own*(ze ks j).me)-(ze ks j).me)) 24:=fun j hj=>((l5 j hj).mul (l5 j hj)).mono (by omega)
 have l7:∀ j,j<ks.length→zu ((own*own)*(ze ks j).sp/((yr:Int):Rat)+((base+own*(ze ks j).me)-(ze ks j).me)*((base+own*(ze ks j).me)-(ze ks j).me)) 40:=fun j hj=>((l4 j hj).add (l6 j hj)).mono (by omega)
 have l8:∀ j,j<ks.length→zu ((ze ks j).ch*((own*own)*(ze ks j).sp/((yr:Int):Rat)+((base+own*(ze ks j).me)-(ze ks j).me)*((base+own*(ze ks j).me)-(ze ks j).me))) 44:=fun j hj=>((zo (lc j hj)).mul (l7 j hj)).mono (by omega)
 have s1:∀ k,k≤ks.length→zu (amS ks ((yr:Int):Rat) base own k) 4000:=fun k hk=>(zbx (F:=fun j=>(ze ks j).ch*((own*own)*(ze ks j).sp/((yr:Int):Rat)+((base+own*(ze ks j).me)-(ze ks j).me)*((base+own*(ze ks j).me)-(ze ks j).me))) (c:=44) k (fun j hj=>l8 j (by omega))).mono (by have:k*45≤40*45:=Nat.mul_le_mul_right _ (by omega);omega)
 have I0:Hid (∀ W,Calls prog 16 #[.int .i64 0] W fun e w'=>∃ zb,e=.returned (.pointer (some ⟨zb,0,none⟩))∧za w' zb (((0:Int):Rat))∧But [] W w'):=fun W=>rf 0 W (by omega) (by omega)
 have IY:Hid (∀ W,Calls prog 16 #[.int .i64 yr] W fun e w'=>∃ zb,e=.returned (.pointer (some ⟨zb,0,none⟩))∧za w' zb (((yr:Int):Rat))∧But [] W w'):=fun W=>rf yr W (by omega) (by omega)
 obtain⟨a,cap,rfl,hcap,hV⟩:=zqo hv
 have HV:=af hV
 have HL:=af (And.intro lc (And.intro lm (And.intro lp (And.intro l1 (And.intro l2 (And.intro l3 (And.intro l4 (And.intro l5 (And.intro l6 (And.intro l7 (And.intro l8 s1)))))))))))
 have HY:=af (And.intro ly (And.intro y0 (And.intro yn (And.intro ub (And.intro uo loo)))))
 have HB:=af (And.intro hb ho)
 clear hV hv lc lm lp l1 l2 l3 l4 l5 l6 l7 l8 s1 ly y0 yn ub uo loo hb ho lb lo
 obtain⟨n,hnn⟩:∃ n,n=ks.length:=⟨_,rfl⟩
 rw[← hnn] at h40 hcap HV HL
 rw[← hnn]
 clear hnn
 go_enter func18,ntmps18
 go_wp2_with fail
 refine (ae I0 _).mono ?_
 rintro e w1 ⟨ga,rfl,ha,hb1⟩
 have S3:Hid (za w1 ga (amS ks ((yr:Int):Rat) base own 0)∧But [] w w1):=⟨ha,hb1⟩
 clear ha hb1 I0
 go_wp2
 go_loopw [9,18] (fun p i wr=>∃ (k pa:Nat),k≤n∧i=.int .i64 (k:Int)∧p=.pointer (some ⟨pa,0,none⟩)∧Hid (za wr pa (amS ks ((yr:Int):Rat) base own k)∧But [] w wr)) (fun _ i _=>n-(intOf i).toNat)
 case atStart=>exact⟨0,ga,Nat.zero_le _,rfl,rfl,ae S3⟩
 case round =>
  obtain⟨k,pa,hk,rfl,rfl,HI⟩:=hrel
  rename World=>wr
  clear S3
  by_cases hlt:k<n
  ·obtain⟨ia,iw⟩:=ae HI
   obtain⟨b,off,g1,g2,g3,rfl,c1,c2,c3,r1,r2,r3⟩:=ae HV wr iw k hlt
   obtain⟨V,hV⟩:∃ V,V=wr.alloc (.cells #[.pointer (some ⟨g1,0,none⟩),.pointer (some ⟨g2,0,none⟩),.pointer (some ⟨g3,0,none⟩)] 47):=⟨_,rfl⟩
   obtain⟨gk,hgk⟩:∃ g,g=wr.heap.size:=⟨_,rfl⟩
   have bV:But [] wr V:=by rw[hV];exact (But.refl _ _).alloc _
   have k0:V.cell? ⟨gk,0,none⟩=some (.pointer (some ⟨g1,0,none⟩)):=by rw[hV,hgk];simp
   have k1:V.cell? ⟨gk,1,none⟩=some (.pointer (some ⟨g2,0,none⟩)):=by rw[hV,hgk];simp
   have k2:V.cell? ⟨gk,2,none⟩=some (.pointer (some ⟨g3,0,none⟩)):=by rw[hV,hgk];simp
   have vb:=(ae HB).1.but (iw.trans' bV)
   have vo:=(ae HB).2.but (iw.trans' bV)
   obtain⟨lc,lm,lp,l1,l2,l3,l4,l5,l6,l7,l8,s1⟩:=ae HL
   obtain⟨ly,y0,yn,ub,uo,loo⟩:=ae HY
   obtain⟨me,hme⟩:∃ me,me=(ze ks k).me:=⟨_,rfl⟩
   obtain⟨sp,hsp⟩:∃ sp,sp=(ze ks k).sp:=⟨_,rfl⟩
   obtain⟨ch,hch⟩:∃ ch,ch=(ze ks k).ch:=⟨_,rfl⟩
   replace l1:=l1 k hlt
   replace l2:=l2 k hlt
   replace l3:=l3 k hlt
   replace l4:=l4 k hlt
   replace l5:=l5 k hlt
   replace l6:=l6 k hlt
   replace l7:=l7 k hlt
   replace l8:=l8 k hlt
   replace lc:=zo (lc k hlt)
   replace lm:=zo (lm k hlt)
   replace lp:=zo (lp k hlt)
   have ls:=s1 k (by omega)
   have hnext:Hid (amS ks ((yr:Int):Rat) base own k+ch*((own*own)*sp/((yr:Int):Rat)+((base+own*me)-me)*((base+own*me)-me))=amS ks ((yr:Int):Rat) base own (k+1)):=by show _=_;rw[hme,hsp,hch];rfl
   rw[← hme] at l1 l2 l5 l6 l7 l8 lm r2
   rw[← hsp] at l3 l4 l7 l8 lp r3
   rw[← hch] at l8 lc r1
   have M1:Hid (∀ W,But [] V W→Calls prog 42 #[.pointer (some ⟨bo,0,none⟩),.pointer (some ⟨g2,0,none⟩)] W fun e w'=>∃ zb,e=.returned (.pointer (some ⟨zb,0,none⟩))∧za w' zb (own*me)∧But [] W w'):=fun W hb=>pz bo g2 _ _ W (vo.but hb) ((r2.but bV).but hb) (uo.mono (by omega)) (lm.mono (by omega))
   have A1:Hid (∀ W x,But [] V W→za W x (own*me)→Calls prog 51 #[.pointer (some ⟨bb,0,none⟩),.pointer (some ⟨x,0,none⟩)] W fun e w'=>∃ zb,e=.returned (.pointer (some ⟨zb,0,none⟩))∧za w' zb (base+own*me)∧But [] W w'):=fun W x hb hx=>zai bb x _ _ W (vb.but hb) hx (ub.mono (by omega)) (l1.mono (by omega))
   have M2:Hid (∀ W,But [] V W→Calls prog 42 #[.pointer (some ⟨bo,0,none⟩),.pointer (some ⟨bo,0,none⟩)] W fun e w'=>∃ zb,e=.returned (.pointer (some ⟨zb,0,none⟩))∧za w' zb (own*own)∧But [] W w'):=fun W hb=>pz bo bo _ _ W (vo.but hb) (vo.but hb) (uo.mono (by omega)) (uo.mono (by omega))
   have M3:Hid (∀ W x,But [] V W→za W x (own*own)→Calls prog 42 #[.pointer (some ⟨x,0,none⟩),.pointer (some ⟨g3,0,none⟩)] W fun e w'=>∃ zb,e=.returned (.pointer (some ⟨zb,0,none⟩))∧za w' zb ((own*own)*sp)∧But [] W w'):=fun W x hb hx=>pz x g3 _ _ W hx ((r3.but bV).but hb) (loo.mono (by omega)) (lp.mono (by omega))
   have D3:Hid (∀ W x y,But [] V W→za W x ((own*own)*sp)→za W y ((yr:Int):Rat)→Calls prog 59 #[.pointer (some ⟨x,0,none⟩),.pointer (some ⟨y,0,none⟩)] W fun e w'=>∃ zb,e=.returned (.pointer (some ⟨zb,0,none⟩))∧za w' zb ((own*own)*sp/((yr:Int):Rat))∧But [] W w'):=fun W x y hb hx hy=>zfn x y _ _ _ W hx hy (l3.mono (by omega)) (ly.mono (by omega)) y0 (Rat.div_mul_cancel yn)
   have S4:Hid (∀ W x,But [] V W→za W x (base+own*me)→Calls prog 47 #[.pointer (some ⟨x,0,none⟩),.pointer (some ⟨g2,0,none⟩)] W fun e w'=>∃ zb,e=.returned (.pointer (some ⟨zb,0,none⟩))∧za w' zb ((base+own*me)-me)∧But [] W w'):=fun W x hb hx=>zfm x g2 _ _ W hx ((r2.but bV).but hb) (l2.mono (by omega)) (lm.mono (by omega))
   have M5:Hid (∀ W x,za W x ((base+own*me)-me)→Calls prog 42 #[.pointer (some ⟨x,0,none⟩),.pointer (some ⟨x,0,none⟩)] W fun e w'=>∃ zb,e=.returned (.pointer (some ⟨zb,0,none⟩))∧za w' zb (((base+own*me)-me)*((base+own*me)-me))∧But [] W w'):=fun W x hx=>pz x x _ _ W hx hx (l5.mono (by omega)) (l5.mono (by omega))
   have A5:Hid (∀ W x y,za W x ((own*own)*sp/((yr:Int):Rat))→za W y (((base+own*me)-me)*((base+own*me)-me))→Calls prog 51 #[.pointer (some ⟨x,0,none⟩),.pointer (some ⟨y,0,none⟩)] W fun e w'=>∃ zb,e=.returned (.pointer (some ⟨zb,0,none⟩))∧za w' zb ((own*own)*sp/((yr:Int):Rat)+((base+own*me)-me)*((base+own*me)-me))∧But [] W w'):=fun W x y hx hy=>zai x y _ _ W hx hy (l4.mono (by omega)) (l6.mono (by omega))
   have M6:Hid (∀ W x,But [] V W→za W x ((own*own)*sp/((yr:Int):Rat)+((base+own*me)-me)*((base+own*me)-me))→Calls prog 42 #[.pointer (some ⟨g1,0,none⟩),.pointer (some ⟨x,0,none⟩)] W fun e w'=>∃ zb,e=.returned (.pointer (some ⟨zb,0,none⟩))∧za w' zb (ch*((own*own)*sp/((yr:Int):Rat)+((base+own*me)-me)*((base+own*me)-me)))∧But [] W w'):=fun W x hb hx=>pz g1 x _ _ W ((r1.but bV).but hb) hx (lc.mono (by omega)) (l7.mono (by omega))
   have A6:Hid (∀ W x,But [] V W→za W x (ch*((own*own)*sp/((yr:Int):Rat)+((base+own*me)-me)*((base+own*me)-me)))→Calls prog 51 #[.pointer (some ⟨pa,0,none⟩),.pointer (some ⟨x,0,none⟩)] W fun e w'=>∃ zb,e=.returned (.pointer (some ⟨zb,0,none⟩))∧za w' zb (amS ks ((yr:Int):Rat) base own (k+1))∧But [] W w'):=fun W x hb hx=>by
    rw[← ae hnext]
    exact zai pa x _ _ W ((ia.but bV).but hb) hx (ls.mono (by omega)) (l8.mono (by omega))
   have BV:=af (iw.trans' bV)
   have HV2:=af hV
   clear r1 r2 r3 lc lm lp l1 l2 l3 l4 l5 l6 l7 l8 s1 ls ly y0 yn ub uo loo ia iw bV hV HI vb vo hnext hme hsp hch
   go_wp2_with fail
   rw[← ae HV2,← hgk]
   clear HV2 hgk c1 c2 c3
   refine (ae M1 _ (But.refl _ _)).mono ?_
   rintro e w2 ⟨x1,rfl,h2,hb2⟩
   have N2:=af (ae A1 _ _ hb2 h2)
   have B2:=af hb2
   clear h2 hb2 M1 A1
   go_wp2_with fail
   refine (ae N2).mono ?_
   rintro e w3 ⟨gs,rfl,h3,hb3⟩
   have B3:=af ((ae B2).trans' hb3)
   have Q3:=af h3
   clear h3 hb3 N2 B2
   replace k0:=(ae B3).ag k0 (by simp)
   replace k1:=(ae B3).ag k1 (by simp)
   replace k2:=(ae B3).ag k2 (by simp)
   go_wp2_with fail
   refine ztx 6 _ _ w3 gk g1 g2 g3 bo yr (own*own) ((own*own)*sp) ((yr:Int):Rat) ((own*own)*sp/((yr:Int):Rat)) (by simp) (by simp[Act.eval]) (by simp[Act.eval]) (by simp[Act.eval]) k0 k1 k2 (fun W hb=>ae M2 W ((ae B3).trans' hb)) (fun W x hb=>ae M3 W x ((ae B3).trans' hb)) (fun W=>ae IY W) (fun W x y hb=>ae D3 W x y ((ae B3).trans' hb)) ?_
   intro y1 y2 y3 gv w4 hP
   simp only[bk,List.foldl_cons,List.foldl_nil,Act.put,List.setIfInBounds_toArray,List.set_cons_zero,List.set_cons_succ]
   have B4:=af ((ae B3).trans' hP.mem)
   have Q4:=af (And.intro ((ae Q3).but hP.mem) (hP.f8 rfl))
   replace k0:=hP.mem.ag k0 (by simp)
   replace k1:=hP.mem.ag k1 (by simp)
   replace k2:=hP.mem.ag k2 (by simp)
   clear hP M2 M3 D3 B3 Q3
   go_wp2_with fail
   refine (ae S4 _ _ (ae B4) (ae Q4).1).mono ?_
   rintro e w5 ⟨gd,rfl,h5,hb5⟩
   have B5:=af ((ae B4).trans' hb5)
   have Q5:=af (And.intro h5 ((ae Q4).2.but hb5))
   replace k0:=hb5.ag k0 (by simp)
   replace k1:=hb5.ag k1 (by simp)
   replace k2:=hb5.ag k2 (by simp)
   clear h5 hb5 B4 Q4 S4
   go_wp2_with fail
   refine ztw 8 _ _ w5 gk g1 g2 g3 pa gv gd (((base+own*me)-me)*((base+own*me)-me)) ((own*own)*sp/((yr:Int):Rat)+((base+own*me)-me)*((base+own*me)-me)) (ch*((own*own)*sp/((yr:Int):Rat)+((base+own*me)-me)*((base+own*me)-me))) (amS ks ((yr:Int):Rat) base own (k+1)) (by simp) (by simp[Act.eval]) (by simp[Act.eval]) (by simp[Act.eval]) (by simp[Act.eval]) k0 k1 k2 (fun W hb=>ae M5 W gd ((ae Q5).1.but hb)) (fun W x hb hx=>ae A5 W gv x ((ae Q5).2.but hb) hx) (fun W x hb=>ae M6 W x ((ae B5).trans' hb)) (fun W x hb=>ae A6 W x ((ae B5).trans' hb)) ?_
   intro z1 z2 z3 gz w6 hP
   simp only[bk,List.foldl_cons,List.foldl_nil,Act.put,List.setIfInBounds_toArray,List.set_cons_zero,List.set_cons_succ]
   have NS:Hid (za w6 gz (amS ks ((yr:Int):Rat) base own (k+1))∧But [] w w6):=⟨hP.f9 rfl,(ae BV).trans' ((ae B5).trans' hP.mem)⟩
   clear hP B5 Q5 M5 A5 M6 A6 BV k0 k1 k2
   go_wp2
   exact⟨⟨k+1,gz,by omega,by go_num,rfl,ae NS⟩,by simp[intOf];omega⟩
  ·obtain rfl:k=n:=by omega
   go_wp2
   go_ret
   exact⟨pa,rfl,ae HI⟩
end Go.Proofs.YtffghofheeleeaaGreatDoor
