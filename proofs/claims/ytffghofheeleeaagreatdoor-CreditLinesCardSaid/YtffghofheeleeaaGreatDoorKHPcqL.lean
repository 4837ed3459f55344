/- The text of a new fraction of the refere -/
import Derived.Test.YtffghofheeleeaaGreatDoorKHG
import Derived.Test.YtffghofheeleeaaGreatDoorKHPbqL
namespace Go.Proofs.YtffghofheeleeaaGreatDoor
open Go.Proofs.Tryz
open Go.RowKit
set_option maxHeartbeats 32000000
set_option maxRecDepth 100000
set_option linter.unusedVariables false
theorem qbc (xb:Nat) (w:World) (hx:qz w xb) :
  Calls prog 93 #[.pointer (some ⟨xb,0,none⟩)] w fun e w'=>e=.returned (.bool true)∧But [] w w':=by
 have DX:=af (zbi xb w hx)
 have one:(wd 4294967296 (1:Int).natAbs).length<2147483648:=by
  have:=jf 1 (by omega)
  simpa using Nat.lt_of_le_of_lt this (by omega)
 have CM:Hid (∀ W a b,zh W a 0 1→zh W b 0 1→Calls prog 109 #[.pointer (some ⟨a,0,none⟩),.pointer (some ⟨b,0,none⟩)] W fun e w'=>e=.returned (.int .i64 0)∧∃ q,w'=W.drewN q):=fun W a b h1 h2=>by
  have:=zdl a 0 b 0 1 1 W h1 h2 one one
  rw[show sj 1 1=0 from by unfold sj;simp] at this
  exact this
 clear one hx
 go_enter func93,ntmps93
 go_wp2_with fail
 refine (ae DX).mono ?_
 rintro e w1 ⟨q,rfl,hq,hb,hI⟩
 have S1:=af (And.intro hb hI)
 clear hq hb hI DX
 go_wp2_with fail
 refine (uw 1 _ (by omega) (by omega)).mono ?_
 rintro e w2 ⟨rfl,hb2,hI2,-⟩
 have C2:=af (ae CM w2 q w1.heap.size ((ae S1).2.but hb2) hI2)
 have B2:=af ((ae S1).1.trans' hb2)
 clear hb2 hI2 S1 CM
 go_wp2_with fail
 refine (ae C2).mono ?_
 rintro e w3 ⟨rfl,k,rfl⟩
 have B3:=af ((ae B2).drewN k)
 generalize w2.drewN k=V at *
 clear B2 C2
 go_wp2
 go_ret
 exact⟨rfl,ae B3⟩
theorem ztf (b:Nat) (w:World) (h:qz w b) :
  Calls prog 10 #[.pointer (some ⟨b,0,none⟩)] w fun e w'=>e=.returned (.string ⟨#[48]⟩)∧But [] w w':=by
 have RS:Hid (Calls prog 40 #[.pointer (some ⟨b,0,none⟩)] w fun e w'=>e=.returned (.string ⟨#[48]⟩)∧But [] w w'):=by
  have IS:=af (qbc b w h)
  have hd0:zca 0=[48]:=by
   unfold zca
   rw[if_neg (by omega)]
   show Lib.decDigits 0=[48]
   rw[Lib.decDigits,dif_pos (by omega)];rfl
  have l0:(wd 4294967296 (0:Int).natAbs).length≤2:=jf _ (by decide)
  have S1:=af (fun W (h:qz W b)=>zcw b 0 0 W h.1 (by omega) (by have:=ziz (0:Int).natAbs _ l0;omega) ⟨#[48]⟩ (by show _=_;rw[hd0]))
  have HB:=af h
  clear h hd0 l0
  show Calls _ _ _ _ _
  go_enter func40,ntmps40
  go_wp2_with fail
  refine (ae IS).mono ?_
  rintro e w1 ⟨rfl,B1⟩
  have S2:=af (ae S1 w1 ((ae HB).but B1))
  have BB:=af B1
  clear B1 S1 IS HB
  go_wp2_with fail
  refine (ae S2).mono ?_
  rintro e w2 ⟨rfl,B2⟩
  have B3:=af ((ae BB).trans' B2)
  clear B2 BB S2
  go_wp2
  go_ret
  exact⟨rfl,ae B3⟩
 clear h
 go_enter func10,ntmps10
 go_wp2_with fail
 refine (ae RS).mono ?_
 rintro e w1 ⟨rfl,hb⟩
 have B1:=af hb
 clear hb RS
 go_wp2
 go_ret
 exact⟨rfl,ae B1⟩
theorem zqw (zb xb yb:Nat) (y:Int) (ny:Nat) (w:World) (hz0:Slot w zb 0) (hz2:Slot w zb 2) (hx:qz w xb) (hy:zw w yb y (ny:Int)) (hny:0<ny) (hyl:(wd 4294967296 y.natAbs).length<8388608) (hnyl:(wd 4294967296 ny).length<8388608) (P Q:Int) (hP:0*(ny:Int)=P) (hQ:1*y=Q) (hPl:(wd 4294967296 P.natAbs).length<8388608) (hQl:(wd 4294967296 Q.natAbs).length<8388608) (hQ0:Q≠0) (N D:Int) (eN0:Hid (N=zer (if Q<0 then -P else P) Q.natAbs)) (eD0:Hid (D=zes P Q.natAbs)) :
  Calls prog 125 #[.pointer (some ⟨zb,0,none⟩),.pointer (some ⟨xb,0,none⟩),.pointer (some ⟨yb,0,none⟩)] w fun e w'=>e=.returned (.pointer (some ⟨zb,0,none⟩))∧But [zb] w w'∧zw w' zb N D:=by
 have lx:=hx.lt
 have ly:=hy.lt
 have lz:=hz0.lt
 have zl:(wd 4294967296 (0:Int).natAbs).length<8388608:=Nat.lt_of_le_of_lt (jf _ (by decide)) (by omega)
 have ol:(wd 4294967296 (1:Int).natAbs).length<8388608:=Nat.lt_of_le_of_lt (jf _ (by decide)) (by omega)
 go_enter func125,ntmps125
 go_wp2
 go_region_with (first
  | (go_at_call_of 108 (Value.pointer (some ⟨yb,0,none⟩));refine (ku yb y ny _ ?_ hny).mono ?_;(refine hy.but ?_;repeat (first | assumption | exact But.refl _ _ | apply But.drew | apply But.alloc));rintro e w' ⟨rfl,rfl⟩)
  | (go_at_call_of 108 (Value.pointer (some ⟨xb,0,none⟩));refine (zbi xb _ ?_).mono ?_;(refine hx.but ?_;repeat (first | assumption | exact But.refl _ _ | apply But.drew | apply But.alloc));rintro e We ⟨qd,rfl,hqd,KBd,KId⟩)
  | (go_at_call_of 110 (Value.pointer (some ⟨yb,2,none⟩));refine (ji _ xb 0 yb 2 0 (ny:Int) P hP w _ ?_ ?_ ?_ hx.1 hy.low zl (by rw[Int.natAbs_natCast];exact hnyl) hPl).mono ?_;(first | exact zqh _ _ | exact zdo _ _ _ | exact zdn _ _ _);(repeat (first | assumption | exact But.refl _ _ | apply But.drew | apply But.alloc));omega;rintro e W1 ⟨rfl,KB1,KA1,KS1,KI1,KL1⟩)
  | (go_at_call_of 110 (Value.pointer (some ⟨qd,0,none⟩));refine (uy _ qd 0 yb 0 1 y Q hQ w _ ?_ ?_ ?_ ?_ ?_ ?_ ?_ ol hyl hQl).mono ?_;(first | exact jy _ _ | exact (jy _ _).but KBd (by simp) | exact (KS1 _ (by omega) (zdo _ _ _)).but KBd (by simp) | exact (KS1 _ (by omega) (zdn _ _ _)).but KBd (by simp));(first | exact KB1.trans' KBd | exact (KB1.alloc _).trans' KBd | exact (KB1.trans' KBd).alloc _);(first | omega | (have:=KB1.size;omega) | (have:=KB1.size;have:=KBd.size;omega) | (have:=KB1.size;have:=KBd.size;simp at this;omega));(first | exact KId | exact KId.but ((But.refl _ _).alloc _));(refine hy.up.but ?_;(first | exact KB1.trans' KBd | exact (KB1.alloc _).trans' KBd | exact (KB1.trans' KBd).alloc _));(first | (have:=KId.lt;omega) | (have:=(KS1 _ (by omega) (zdo _ _ _)).lt;omega) | (have:=(KS1 _ (by omega) (zdn _ _ _)).lt;omega) | (have h0:=hqd;simp at h0;omega));(first | omega | (have:=KB1.size;omega) | (have:=KB1.size;have:=KBd.size;omega) | (have:=KB1.size;have:=KBd.size;simp at this;omega));rintro e W2 ⟨rfl,KB2,KA2,KS2,KI2,KL2⟩)
  | (go_at_call 43;refine (yg zb _ 0 _ 0 P Q _ (hz0.but KB2 (by simp)) (hz2.but KB2 (by simp)) (KI2 _ _ _ ?_ ?_) KA2 hPl hQl hQ0 N D eN0 eD0).mono ?_;(first | omega | (have:=KA1.lt;omega) | (have:=KA1.lt;have:=KBd.size;omega) | (have:=KA1.lt;have:=KBd.size;simp at this;omega));(refine KA1.but ?_;(first | exact KBd | exact ((But.refl _ _).alloc _).trans' KBd | exact KBd.alloc _));rintro e W3 ⟨rfl,KB3,KR3⟩))
 all_goals go_wp2
 all_goals go_ret
 all_goals exact⟨rfl,(KB2.of_nil (l:=[zb])).trans KB3 (by simp),KR3⟩
theorem zii (xb yb:Nat) (g:Rat) (w:World) (hx:qz w xb) (hy:za w yb g) (lg:zu g 2000000) (hg0:g.num≠0) :
  Calls prog 59 #[.pointer (some ⟨xb,0,none⟩),.pointer (some ⟨yb,0,none⟩)] w fun e w'=>∃ zb,e=.returned (.pointer (some ⟨zb,0,none⟩))∧But [] w w'∧za w' zb 0∧w.heap.size≤zb:=by
 have hgd:0<g.den:=Nat.pos_of_ne_zero g.den_nz
 have hQ0:(1:Int)*g.num≠0:=by rw[Int.one_mul];exact hg0
 obtain⟨e1,e2⟩:=zcr (0*(g.den:Int)) ((1:Int)*g.num) hQ0 0 (by show (0:Int)*_=_;rw[Int.zero_mul,Int.zero_mul,Int.zero_mul])
 obtain⟨W0,hW0⟩:∃ W0,W0=w.alloc (.cells #[.bool false,.slice none 0 0,.bool false,.slice none 0 0] 103):=⟨_,rfl⟩
 have hs:=zaq w 103
 have hbw:But [] w W0:=by rw[hW0];exact (But.refl _ _).alloc _
 rw[← hW0] at hs
 obtain⟨lg1,lg2⟩:=lg
 have QU:=af (zqw w.heap.size xb yb g.num g.den W0 hs.1 hs.2 (hx.but hbw) (zw.but hy hbw) hgd (by omega) (by omega) _ _ rfl rfl (by rw[Int.zero_mul];exact Nat.lt_of_le_of_lt (jf _ (by decide)) (by omega)) (by rw[Int.one_mul];omega) hQ0 (0:Rat).num ((0:Rat).den:Int) e1 e2)
 obtain⟨s,hss⟩:∃ s,s=g.num.sign:=⟨_,rfl⟩
 have hs0:(s==0)=false:=beq_eq_false_iff_ne.2 (by rw[hss];exact fun h=>hg0 (Int.sign_eq_zero_iff_zero.1 h))
 have SG:=af (zdf yb g.num (g.den:Int) w hy s hss (by omega))
 have HW0:=af hW0
 have HBW:=af hbw
 clear hW0 hbw hs e1 e2 hQ0 lg1 lg2 hx hy hgd hss hg0
 go_enter func59,ntmps59
 go_wp2_with fail
 refine (ae SG).mono ?_
 rintro e w1 ⟨rfl,hw⟩
 obtain rfl:=hw.symm
 clear hw
 go_wp2_with fail
 rw[← ae HW0]
 refine (ae QU).mono ?_
 rintro e w1 ⟨rfl,h1,h2⟩
 have FIN:=af (And.intro ((ae HBW).trans h1 (by simp)) h2)
 clear h1 h2 QU
 go_wp2
 go_ret
 exact⟨w.heap.size,rfl,(ae FIN).1,(ae FIN).2,Nat.le_refl _⟩
end Go.Proofs.YtffghofheeleeaaGreatDoor
