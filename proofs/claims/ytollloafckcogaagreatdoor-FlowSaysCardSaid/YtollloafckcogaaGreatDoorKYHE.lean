/- Quotients of fractions, as package tonti -/
import Derived.Test.YtollloafckcogaaGreatDoorKYG0
import Derived.Test.YtollloafckcogaaGreatDoorKYHB
import Derived.Test.YtollloafckcogaaGreatDoorKYHD
namespace Go.Proofs.YtollloafckcogaaGreatDoor
open Go.RowKit
set_option maxHeartbeats 4000000
set_option maxRecDepth 100000
theorem cross_quo (f g q:Rat) (h:q*g=f):q.num*((f.den:Int)*g.num)=f.num*(g.den:Int)*(q.den:Int):=by
 have hc:=cross_mul q g
 rw [h,Int.natCast_mul] at hc
 grind
theorem refDivU_any (xb yb:Nat) (f g q:Rat) (w:World) (hx:RatIs w xb f) (hy:RatIs w yb g) (lf:LenU f 2000000) (lg:LenU g 2000000) (hg0:g.num≠0) (hq:q*g=f) :
  Calls Tryz.prog 22 #[.pointer (some ⟨xb,0,none⟩),.pointer (some ⟨yb,0,none⟩)] w fun e w'=>∃ zb,e=.returned (.pointer (some ⟨zb,0,none⟩))∧But [] w w'∧RatIs w' zb q∧w.heap.size≤zb:=by
 have hfd:0<f.den:=Nat.pos_of_ne_zero f.den_nz
 have hgd:0<g.den:=Nat.pos_of_ne_zero g.den_nz
 have hQ0:(f.den:Int)*g.num≠0:=Int.mul_ne_zero (by omega) hg0
 obtain ⟨e1,e2⟩:=red_rat (f.num*(g.den:Int)) ((f.den:Int)*g.num) hQ0 q (cross_quo f g q hq)
 obtain ⟨W0,hW0⟩:∃ W0,W0=w.alloc (.cells #[.bool false,.slice none 0 0,.bool false,.slice none 0 0] 92):=⟨_,rfl⟩
 have hs:=ratSlots w 92
 have hbw:But [] w W0:=by rw [hW0];exact (But.refl _ _).alloc _
 rw [← hW0] at hs
 have l1:=lenU_mul f.num.natAbs g.den
 have l2:=lenU_mul f.den g.num.natAbs
 obtain ⟨lf1,lf2⟩:=lf
 obtain ⟨lg1,lg2⟩:=lg
 have QU:=hide (quoU_any w.heap.size xb yb f.num g.num f.den g.den W0 hs.1 hs.2 (RatAt.but hx hbw) (RatAt.but hy hbw) hfd hgd (by omega) (by omega) (by omega) (by omega) _ _ rfl rfl (by rw [Int.natAbs_mul,Int.natAbs_natCast];omega) (by rw [Int.natAbs_mul,Int.natAbs_natCast];omega) hQ0 q.num (q.den:Int) e1 e2)
 obtain ⟨s,hss⟩:∃ s,s=g.num.sign:=⟨_,rfl⟩
 have hs0:(s==0)=false:=beq_eq_false_iff_ne.2 (by rw [hss];exact fun h=>hg0 (Int.sign_eq_zero_iff_zero.1 h))
 have SG:=hide (ratSign_any yb g.num (g.den:Int) w hy s hss (by omega))
 have HW0:=hide hW0
 have HBW:=hide hbw
 clear hW0 hbw hs e1 e2 hQ0 l1 l2 lf1 lf2 lg1 lg2 hx hy hfd hgd hss hg0 hq
 go_enter Tryz.func22,Tryz.ntmps22
 go_wp2_with fail
 refine (unhide SG).mono ?_
 rintro e w1 ⟨rfl,hw⟩
 obtain rfl:=hw.symm
 clear hw
 go_wp2_with fail
 rw [← unhide HW0]
 refine (unhide QU).mono ?_
 rintro e w1 ⟨rfl,h1,h2⟩
 have FIN:=hide (And.intro ((unhide HBW).trans h1 (by simp)) h2)
 clear h1 h2 QU
 go_wp2
 go_ret
 exact ⟨w.heap.size,rfl,(unhide FIN).1,(unhide FIN).2,Nat.le_refl _⟩
end Go.Proofs.YtollloafckcogaaGreatDoor

namespace Go.Proofs.YtollloafckcogaaGreatDoor
open Go.RowKit
set_option maxHeartbeats 4000000
set_option maxRecDepth 100000
def cmpS (x y:Int):Int:=if x<y then -1 else if x=y then 0 else 1
theorem cmpS_neg (x y:Int) (hx:x<0) (hy:y<0):cmpS x y=-cmpN x.natAbs y.natAbs:=by
 unfold cmpS cmpN
 by_cases h1:x<y
 ·rw [if_pos h1,if_neg (by omega),if_neg (by omega)]
 ·by_cases h2:x=y
  ·rw [if_neg h1,if_pos h2,if_neg (by omega),if_pos (by omega)];rfl
  ·rw [if_neg h1,if_neg h2,if_pos (by omega)];rfl
theorem cmpS_pos (x y:Int) (hx:0≤x) (hy:0≤y):cmpS x y=cmpN x.natAbs y.natAbs:=by
 unfold cmpS cmpN
 by_cases h1:x<y
 ·rw [if_pos h1,if_pos (by omega)]
 ·by_cases h2:x=y
  ·rw [if_neg h1,if_pos h2,if_neg (by omega),if_pos (by omega)]
  ·rw [if_neg h1,if_neg h2,if_neg (by omega),if_neg (by omega)]
theorem cmpN_range (m n:Nat):-1≤cmpN m n∧cmpN m n≤1:=by
 rcases cmpN_cases m n with ⟨-,h⟩ | ⟨-,h⟩ | ⟨-,h⟩ <;> omega
theorem intCmpU_any (b o b' o':Nat) (x y:Int) (w:World) (hx:IntAt w b o x) (hy:IntAt w b' o' y) (hlx:(wd 4294967296 x.natAbs).length<2147483648) (hly:(wd 4294967296 y.natAbs).length<2147483648) :
  Calls Tryz.prog 101 #[.pointer (some ⟨b,o,none⟩),.pointer (some ⟨b',o',none⟩)] w fun e w'=>e=.returned (.int .i64 (cmpS x y))∧∃ q,w'=w.drewN q:=by
 obtain ⟨h0,v0,h1,hv⟩:=hx
 obtain ⟨g0,v1,g1,hv'⟩:=hy
 by_cases hxn:x<0 <;> by_cases hyn:y<0
 ·rw [decide_eq_true hxn] at h0
  rw [decide_eq_true hyn] at g0
  have HC:Hid (cmpS x y=-cmpN x.natAbs y.natAbs):=cmpS_neg x y hxn hyn
  obtain ⟨c1,c2⟩:=cmpN_range x.natAbs y.natAbs
  go_enter Tryz.func101,Tryz.ntmps101
  go_wp2
  go_quiet (fail)
  go_wp2
  obtain ⟨W,hW⟩:∃ W,W=w.drewN nq:=⟨_,rfl⟩
  have k0:W.cell? ⟨b,o,none⟩=some (.bool true):=by rw [hW];exact h0
  have k1:W.cell? ⟨b,o+1,none⟩=some v0:=by rw [hW];exact h1
  have l1:W.cell? ⟨b',o' + 1,none⟩=some v1:=by rw [hW];exact g1
  have hva:Sl .u32 W v0 (wd 4294967296 x.natAbs):=by rw [hW];exact hv
  have hvb:Sl .u32 W v1 (wd 4294967296 y.natAbs):=by rw [hW];exact hv'
  rw [← hW]
  have HW:=hide hW
  clear hW
  go_quiet ((go_at_call 138;refine Calls.quiet_of (cmp_any v0 v1 x.natAbs y.natAbs _ ?_ ?_ hlx hly);exact hva;exact hvb))
  generalize cmpN x.natAbs y.natAbs=cc at *
  go_wp2
  go_ret
  exact ⟨by rw [unhide HC];rfl,by rw [unhide HW];exact dr1 _ _ _⟩
 ·rw [decide_eq_true hxn] at h0
  rw [decide_eq_false hyn] at g0
  have HC:Hid (cmpS x y=-1):=by show _=_;unfold cmpS;rw [if_pos (by omega)]
  go_enter Tryz.func101,Tryz.ntmps101
  go_wp2
  go_quiet (fail)
  go_wp2
  go_ret
  exact ⟨by rw [unhide HC];rfl,_,rfl⟩
 ·rw [decide_eq_false hxn] at h0
  rw [decide_eq_true hyn] at g0
  have HC:Hid (cmpS x y=1):=by show _=_;unfold cmpS;rw [if_neg (by omega),if_neg (by omega)]
  go_enter Tryz.func101,Tryz.ntmps101
  go_wp2
  go_quiet (fail)
  go_wp2
  go_ret
  exact ⟨by rw [unhide HC];rfl,_,rfl⟩
 ·rw [decide_eq_false hxn] at h0
  rw [decide_eq_false hyn] at g0
  have HC:Hid (cmpS x y=cmpN x.natAbs y.natAbs):=cmpS_pos x y (by omega) (by omega)
  obtain ⟨c1,c2⟩:=cmpN_range x.natAbs y.natAbs
  go_enter Tryz.func101,Tryz.ntmps101
  go_wp2
  go_quiet (fail)
  go_wp2
  obtain ⟨W,hW⟩:∃ W,W=w.drewN nq:=⟨_,rfl⟩
  have k0:W.cell? ⟨b,o,none⟩=some (.bool false):=by rw [hW];exact h0
  have k1:W.cell? ⟨b,o+1,none⟩=some v0:=by rw [hW];exact h1
  have l1:W.cell? ⟨b',o' + 1,none⟩=some v1:=by rw [hW];exact g1
  have hva:Sl .u32 W v0 (wd 4294967296 x.natAbs):=by rw [hW];exact hv
  have hvb:Sl .u32 W v1 (wd 4294967296 y.natAbs):=by rw [hW];exact hv'
  rw [← hW]
  have HW:=hide hW
  clear hW
  go_quiet ((go_at_call 138;refine Calls.quiet_of (cmp_any v0 v1 x.natAbs y.natAbs _ ?_ ?_ hlx hly);exact hva;exact hvb))
  generalize cmpN x.natAbs y.natAbs=cc at *
  go_wp2
  go_ret
  exact ⟨by rw [unhide HC];rfl,by rw [unhide HW];exact dr1 _ _ _⟩
end Go.Proofs.YtollloafckcogaaGreatDoor

namespace Go.Proofs.YtollloafckcogaaGreatDoor
open Go.RowKit
set_option maxHeartbeats 4000000
set_option maxRecDepth 100000
theorem cmpS_small (x y:Int):-1≤cmpS x y∧cmpS x y≤1:=by
 unfold cmpS
 split
 ·omega
 ·split <;> omega
theorem cmpS_one (n:Int):(cmpS n 1==0)=decide (n=1):=by
 unfold cmpS
 by_cases h1:n<1
 ·rw [if_pos h1,decide_eq_false (by omega)];rfl
 ·by_cases h2:n=1
  ·rw [if_neg h1,if_pos h2,decide_eq_true h2];rfl
  ·rw [if_neg h1,if_neg h2,decide_eq_false h2];rfl
theorem ratIsIntU_any (xb:Nat) (x:Int) (nx:Nat) (w:World) (hx:RatAt w xb x (nx:Int)) (hnx:0<nx) (hnxl:(wd 4294967296 nx).length<8388608) :
  Calls Tryz.prog 85 #[.pointer (some ⟨xb,0,none⟩)] w fun e w'=>e=.returned (.bool (decide (nx=1)))∧But [] w w':=by
 have DX:=hide (den_any xb x nx w hx hnx)
 have one:(wd 4294967296 (1:Int).natAbs).length<2147483648:=by
  have:=len_le_two 1 (by omega)
  simpa using Nat.lt_of_le_of_lt this (by omega)
 have CM:=hide (fun W b (h1:IntAt W xb 2 (nx:Int)) (h2:IntAt W b 0 1)=>intCmpU_any xb 2 b 0 (nx:Int) 1 W h1 h2 (by rw [Int.natAbs_natCast];omega) one)
 obtain ⟨c1,c2⟩:=cmpS_small (nx:Int) 1
 have hc:Hid ((cmpS (nx:Int) 1==0)=decide (nx=1)):=by
  show _=_
  rw [cmpS_one]
  exact decide_eq_decide.2 (by omega)
 generalize cmpS (nx:Int) 1=cd at CM c1 c2 hc
 clear one
 go_enter Tryz.func85,Tryz.ntmps85
 go_wp2_with fail
 refine (unhide DX).mono ?_
 rintro e w1 ⟨rfl,hw⟩
 obtain rfl:=hw.symm
 clear hw
 go_wp2_with fail
 refine (newInt_any 1 _ (by omega) (by omega)).mono ?_
 rintro e w2 ⟨rfl,B2,I2,S2⟩
 go_wp2_with fail
 refine (unhide CM _ _ (hx.low.but B2) I2).mono ?_
 rintro e w3 ⟨rfl,q,rfl⟩
 clear CM DX
 go_wp2
 go_ret
 exact ⟨by rw [← unhide hc];rfl,B2.drewN _⟩
end Go.Proofs.YtollloafckcogaaGreatDoor

namespace Go.Proofs.YtollloafckcogaaGreatDoor
open Go.RowKit
set_option maxHeartbeats 4000000
set_option maxRecDepth 100000
def decI (z:Int):List UInt8:=if z<0 then 45::Lib.decDigits z.natAbs else Lib.decDigits z.natAbs
theorem owns_snoc {w:World} {base:Nat} {e:TypeId} {v:Value} {ds:List UInt8} (h:w.ownsRow base e 1 v (ds.length+1) (ds.map u8v++[.int .u8 45])) :
  ∃ g cap,v=.slice (some ⟨g,0,none⟩) (ds.length+1) cap∧base≤g∧ds.length+1≤cap∧Row .u8 w g ((ds++[45]).map UInt8.toNat):=by
 have h':w.ownsRow base e 1 v (ds++[45]).length ((ds++[45]).map u8v):=by rw [List.length_append,List.map_append];exact h
 have h2:=owns_row h' (by simp)
 rw [List.length_append] at h2
 exact h2
theorem text_fin (z:Int) (hz:z≠0) (ds:List UInt8) (h:rdig z.natAbs=ds):decI z=(if z<0 then ds++[45] else ds).reverse:=by
 rw [decI,← rdig_rev _ (by omega),h]
 split <;> simp
structure TextInv (w:World) (n m:Nat) (ds:List UInt8) (vb va:Value) (wr:World):Prop where
 words:Sl .u32 wr va (wd 4294967296 m)
 own:wr.ownsRow w.heap.size 5 1 vb ds.length (ds.map u8v)
 but:But [] w wr
 dig:rdig n=ds++rdig m
 len:(wd 4294967296 m).length<1073741824
theorem intText_pos (b o:Nat) (z:Int) (w:World) (h:IntAt w b o z) (hz:z≠0) (hl:(wd 4294967296 z.natAbs).length<1073741824) (hd:(rdig z.natAbs).length<1073741824) (t:ByteArray) (ht:Hid (t=⟨(decI z).toArray⟩)) :
  Calls Tryz.prog 130 #[.pointer (some ⟨b,o,none⟩),.int .i64 10] w fun e w'=>e=.returned (.string t)∧But [] w w':=by
 obtain ⟨b0,vb,b1,hvb⟩:=h
 obtain ⟨i0,hi,hz0,hz1,hz2⟩:=info_u8
 have hvb':=hvb
 obtain ⟨a,cap,rfl,-,-⟩:=hvb'
 have n0:(((wd 4294967296 z.natAbs).length:Int)==0)=false:=by
  have:=wd_len_zero (B:=4294967296) (by omega) z.natAbs
  simp;intro h;simp [h] at this;omega
 have HV:=hide hvb
 have HL:=hide hl
 clear hvb hl
 generalize (wd 4294967296 z.natAbs).length=l at n0 b1 HV
 go_enter Tryz.func130,Tryz.ntmps130
 go_wp2_with fail
 refine (twin_any _ _ _ (unhide HV) (by have:=unhide HL;omega)).mono ?_
 rintro e w1 ⟨v1,rfl,hv1,hb1,-⟩
 have B0:=hb1.cell_some b0 (by simp)
 go_wp2
 go_loopg [5,6,7] z.natAbs (fun m vb va vr wr=>∃ ds:List UInt8,TextInv w z.natAbs m ds vb va wr)
 case atStart=>exact ⟨[],⟨hv1,World.ownsRow_nil _ _ _ _,hb1,rfl,unhide HL⟩⟩
 case round =>
  obtain ⟨ds,hI⟩:=hrel
  have hlz:=wd_len_zero (B:=4294967296) (by omega) gk
  obtain ⟨hsl,hown,hbut,hdig,hlen⟩:=hI
  have hsl':=hsl
  obtain ⟨aa,ca,rfl,-,-⟩:=hsl'
  have hdl:ds.length<1073741824:=by have:=congrArg List.length hdig;rw [List.length_append] at this;omega
  generalize hla:(wd 4294967296 gk).length=la at *
  by_cases hm:gk=0
  ·have:la=0:=by omega
   subst this
   subst hm
   rw [rdig_zero,List.append_nil] at hdig
   have hn0:0<ds.length:=by
    rw [← hdig,rdig_pos (by omega)];simp
   have c0:=hbut.cell_some b0 (by simp)
   have HDG:=hide hdig
   clear hdig hla hlen hsl hlz
   by_cases hneg:z<0
   ·rw [decide_eq_true hneg] at c0
    have HT:Hid (t=⟨(ds++[45]).reverse.toArray⟩):=by show _=_;rw [unhide ht,text_fin z hz ds (unhide HDG),if_pos hneg]
    go_wp2_with (at_builtin;refine wpList_append_own _ rfl _ _ 136 rfl w.heap.size 5 i0 (.int .u8 0) 1 1 Tryz.underlying136 hi hz0 hz1 hz2 rfl (by decide) _ _ _ rfl (hown.alloc _) ⟨wr.heap.size,0,none⟩ 1 1 [_] rfl rfl (cell_one_new _ _ _) (by intro u hu;simp at hu;subst hu;rfl) (by unfold maxLen;omega) (by omega) (by have:=hbut.size;simp;omega) ?_;intro v3 w3 hown3 hgrow3 hnil3;have hBW:But [] w w3:=(hbut.alloc _).grown hgrow3 (fun k hk=>(hown.lt k hk).1);obtain ⟨g,cg,rfl,hg,hcg,hrow⟩:=owns_snoc hown3;clear hown3 hgrow3 hnil3)
    go_loopw [8,9,10] (fun i j x wq=>∃ (k q:Nat) (cs:List Nat),i=.int .i64 k∧j=.int .i64 q∧k≤q+1∧Hid (k+q+1=ds.length+1∧RevInv ((ds++[45]).map UInt8.toNat) cs k∧Row .u8 wq g cs∧But [] w wq)) (fun i _ _ _=>ds.length+1-(intOf i).toNat)
    case atStart=>exact ⟨0,ds.length+1-1,(ds++[45]).map UInt8.toNat,rfl,by congr 1 <;> omega,by omega,by omega,RevInv.start _,hrow,hBW⟩
    case round =>
     obtain ⟨k,q,cs,rfl,rfl,hkq,HJ⟩:=hrel
     rename World=>wq
     have hbl:((ds++[45]).map UInt8.toNat).length=ds.length+1:=by simp
     have hcl:cs.length=ds.length+1:=by rw [(unhide HJ).2.1.len,hbl]
     have hsum:=(unhide HJ).1
     by_cases hlt:k<q
     ·obtain ⟨ck,fk⟩:=(unhide HJ).2.2.1 k (by omega)
      obtain ⟨cq,fq⟩:=(unhide HJ).2.2.1 q (by omega)
      have ST:=hide ((unhide HJ).2.1.step (by rw [hbl];omega))
      have hq:q=ds.length+1-1-k:=by omega
      rw [hbl,← hq] at ST
      have HC:=hide hcl
      have HS:=hide hsum
      have ne1:k≠q:=by omega
      have hk1:k<ds.length+1:=by omega
      have hq1:q<ds.length+1:=by omega
      clear hcl hbl hsum hq
      generalize hx:cs[k]?.getD 0=x at *
      generalize hy:cs[q]?.getD 0=y at *
      clear hx hy
      go_wp2
      refine ⟨⟨k+1,q-1,(cs.set k y).set q x,by go_num,by rw [Int.ofNat_sub (by omega)];rfl,by omega,by have:=unhide HS;omega,unhide ST,((unhide HJ).2.2.1.set k (by rw [unhide HC];have:=unhide HS;omega) y).set q (by rw [List.length_set,unhide HC];have:=unhide HS;omega) x,((unhide HJ).2.2.2.setCell (.inr hg) _).setCell (.inr hg) _⟩,?_⟩
      have:=unhide HS
      simp [intOf];omega
     ·have hfin:cs=((ds++[45]).map UInt8.toNat).reverse:=(unhide HJ).2.1.fin (by rw [hbl];omega)
      have hcv:=run_convert_bytes_back (P:=Tryz.prog) wq 136 9 5 ⟨g,0,none⟩ cg (ds++[45]).reverse Tryz.underlying136 Tryz.underlying5 Tryz.underlying9 (fun j hj=>by
       have h1:=((unhide HJ).2.2.1 j (by rw [hcl];simpa using hj)).1
       rw [hfin,← List.map_reverse,List.getElem?_map,List.getElem?_eq_getElem hj] at h1
       have e:(⟨g,0,none⟩:Addr).add j=⟨g,j,none⟩:=by by_cases h:j=0 <;> simp [Addr.add,h]
       rw [e];exact h1)
      rw [← unhide HT] at hcv
      simp only [List.length_reverse,List.length_append,List.length_cons,List.length_nil,Nat.zero_add] at hcv
      have HB:=hide (unhide HJ).2.2.2
      clear hcl hbl hfin hsum HJ
      go_wp2
      go_ret
      exact ⟨rfl,unhide HB⟩
   ·rw [decide_eq_false hneg] at c0
    have HT:Hid (t=⟨ds.reverse.toArray⟩):=by show _=_;rw [unhide ht,text_fin z hz ds (unhide HDG),if_neg hneg]
    obtain ⟨g,cg,rfl,hg,hcg,hrow⟩:=owns_row hown hn0
    have hBW:=hbut
    go_wp2
    go_loopw [8,9,10] (fun i j x wq=>∃ (k q:Nat) (cs:List Nat),i=.int .i64 k∧j=.int .i64 q∧k≤q+1∧Hid (k+q+1=ds.length∧RevInv ((ds).map UInt8.toNat) cs k∧Row .u8 wq g cs∧But [] w wq)) (fun i _ _ _=>ds.length-(intOf i).toNat)
    case atStart=>exact ⟨0,ds.length-1,(ds).map UInt8.toNat,rfl,by congr 1 <;> omega,by omega,by omega,RevInv.start _,hrow,hBW⟩
    case round =>
     obtain ⟨k,q,cs,rfl,rfl,hkq,HJ⟩:=hrel
     rename World=>wq
     have hbl:((ds).map UInt8.toNat).length=ds.length:=by simp
     have hcl:cs.length=ds.length:=by rw [(unhide HJ).2.1.len,hbl]
     have hsum:=(unhide HJ).1
     by_cases hlt:k<q
     ·obtain ⟨ck,fk⟩:=(unhide HJ).2.2.1 k (by omega)
      obtain ⟨cq,fq⟩:=(unhide HJ).2.2.1 q (by omega)
      have ST:=hide ((unhide HJ).2.1.step (by rw [hbl];omega))
      have hq:q=ds.length-1-k:=by omega
      rw [hbl,← hq] at ST
      have HC:=hide hcl
      have HS:=hide hsum
      have ne1:k≠q:=by omega
      have hk1:k<ds.length:=by omega
      have hq1:q<ds.length:=by omega
      clear hcl hbl hsum hq
      generalize hx:cs[k]?.getD 0=x at *
      generalize hy:cs[q]?.getD 0=y at *
      clear hx hy
      go_wp2
      refine ⟨⟨k+1,q-1,(cs.set k y).set q x,by go_num,by rw [Int.ofNat_sub (by omega)];rfl,by omega,by have:=unhide HS;omega,unhide ST,((unhide HJ).2.2.1.set k (by rw [unhide HC];have:=unhide HS;omega) y).set q (by rw [List.length_set,unhide HC];have:=unhide HS;omega) x,((unhide HJ).2.2.2.setCell (.inr hg) _).setCell (.inr hg) _⟩,?_⟩
      have:=unhide HS
      simp [intOf];omega
     ·have hfin:cs=((ds).map UInt8.toNat).reverse:=(unhide HJ).2.1.fin (by rw [hbl];omega)
      have hcv:=run_convert_bytes_back (P:=Tryz.prog) wq 136 9 5 ⟨g,0,none⟩ cg (ds).reverse Tryz.underlying136 Tryz.underlying5 Tryz.underlying9 (fun j hj=>by
       have h1:=((unhide HJ).2.2.1 j (by rw [hcl];simpa using hj)).1
       rw [hfin,← List.map_reverse,List.getElem?_map,List.getElem?_eq_getElem hj] at h1
       have e:(⟨g,0,none⟩:Addr).add j=⟨g,j,none⟩:=by by_cases h:j=0 <;> simp [Addr.add,h]
       rw [e];exact h1)
      rw [← unhide HT] at hcv
      rw [List.length_reverse] at hcv
      have HB:=hide (unhide HJ).2.2.2
      clear hcl hbl hfin hsum HJ
      go_wp2
      go_ret
      exact ⟨rfl,unhide HB⟩
  ·have hla0:0<la:=by omega
   have HA:=hide hla
   have HDG:=hide hdig
   clear hla hdig hlz
   go_wp2_with fail
   refine (small_any2 _ gk 10 _ hsl (by omega) (by omega) (by rw [unhide HA];exact hlen)).mono ?_
   rintro e w2 ⟨v2,rfl,hv2,hb2,hfr⟩
   have hr10:gk%10<10:=Nat.mod_lt _ (by omega)
   generalize hrr:gk%10=r at *
   have HR:=hide hrr
   clear hrr
   have hown2:=owns_but hown hb2
   go_wp2_with (at_builtin;refine wpList_append_own _ rfl _ _ 136 rfl w.heap.size 5 i0 (.int .u8 0) 1 1 Tryz.underlying136 hi hz0 hz1 hz2 rfl (by decide) _ _ _ rfl (hown2.alloc _) ⟨w2.heap.size,0,none⟩ 1 1 [_] rfl rfl (cell_one_new _ _ _) (by intro u hu;simp at hu;subst hu;rfl) (by unfold maxLen;omega) (by omega) (by have:=hbut.size;have:=hb2.size;simp;omega) ?_;intro v3 w3 hown3 hgrow3 hnil3)
   go_roundg (gk/10)
   case measure=>exact Nat.div_lt_self (by omega) (by omega)
   case rel =>
    refine ⟨ds++[UInt8.ofNat (48+r)],sl_grown hv2 hgrow3 (fun k hk=>(hown.lt k hk).2) hfr,?_,((hbut.trans' hb2).alloc _).grown hgrow3 (fun k hk=>(hown.lt k hk).1),?_,?_⟩
    ·rw [List.length_append,List.map_append]
     rw [u8v_digit r hr10] at hown3
     exact hown3
    ·rw [unhide HDG,rdig_pos (by omega),unhide HR,List.append_assoc];rfl
    ·have h1:=lt_of_wd_length (B:=4294967296) (by omega) gk _ (Nat.le_refl _)
     have h2:=wd_length_le (B:=4294967296) (by omega) (gk/10) _ (Nat.lt_of_le_of_lt (Nat.div_le_self _ _) h1)
     rw [unhide HA] at h2
     omega
theorem intText_any (b o:Nat) (z:Int) (w:World) (h:IntAt w b o z) (hl:(wd 4294967296 z.natAbs).length<1073741824) (hd:(rdig z.natAbs).length<1073741824) (t:ByteArray) (ht:Hid (t=⟨(decI z).toArray⟩)) :
  Calls Tryz.prog 130 #[.pointer (some ⟨b,o,none⟩),.int .i64 10] w fun e w'=>e=.returned (.string t)∧But [] w w':=by
 by_cases hz:z=0
 ·subst hz
  obtain ⟨b0,vb,b1,hvb⟩:=h
  simp only [Int.natAbs_zero,wd_zero] at hvb
  obtain ⟨a,cap,rfl,-,-⟩:=hvb
  have e:Hid (t=⟨#[48]⟩):=by
   show _=_
   rw [unhide ht]
   have:decI 0=[48]:=by rw [decI,if_neg (by omega),Int.natAbs_zero,Lib.decDigits,dif_pos (by omega)];rfl
   rw [this]
  clear ht hl hd b0
  go_enter Tryz.func130,Tryz.ntmps130
  go_wp2
  go_ret
  exact ⟨by rw [unhide e];rfl,But.refl _ _⟩
 ·exact intText_pos b o z w h hz hl hd t ht
theorem intString_any (b o:Nat) (z:Int) (w:World) (h:IntAt w b o z) (hl:(wd 4294967296 z.natAbs).length<1073741824) (hd:(rdig z.natAbs).length<1073741824) (t:ByteArray) (ht:Hid (t=⟨(decI z).toArray⟩)) :
  Calls Tryz.prog 86 #[.pointer (some ⟨b,o,none⟩)] w fun e w'=>e=.returned (.string t)∧But [] w w':=by
 go_enter Tryz.func86,Tryz.ntmps86
 go_wp2_with fail
 refine (intText_any b o z _ h hl hd t ht).mono ?_
 rintro e w1 ⟨rfl,hb⟩
 go_wp2
 go_ret
 exact ⟨rfl,hb⟩
def ratTxt (p:Int) (n:Nat):ByteArray:=if n=1 then ⟨(decI p).toArray⟩ else ⟨(decI p).toArray⟩++⟨#[47]⟩++⟨(decI n).toArray⟩
theorem digU_len (X n:Nat) (h:(wd 4294967296 X).length≤n):(rdig X).length≤10*n:=by
 refine rdig_length X _ ?_
 have h1:=lt_of_wd_length (B:=4294967296) (by omega) X n h
 refine Nat.lt_of_lt_of_le h1 ?_
 rw [Nat.pow_mul]
 exact Nat.pow_le_pow_left (by omega) n
theorem decI_len (z:Int) (n:Nat) (h:(wd 4294967296 z.natAbs).length≤n):(decI z).length≤10*n+2:=by
 have hd:(Lib.decDigits z.natAbs).length≤10*n+1:=by
  rcases Nat.eq_zero_or_pos z.natAbs with h0 | h0
  ·rw [h0,Lib.decDigits_length,Lib.nDigits_small (by omega)];omega
  ·rw [← rdig_rev _ h0,List.length_reverse]
   have:=digU_len z.natAbs n h
   omega
 unfold decI
 split
 ·rw [List.length_cons];omega
 ·omega
theorem ratString_any (b:Nat) (p:Int) (n:Nat) (w:World) (h:RatAt w b p n) (hn0:0<n) (hp:(wd 4294967296 p.natAbs).length≤4000000) (hn:(wd 4294967296 n).length≤4000000) (t:ByteArray) (ht:Hid (t=⟨(decI p).toArray⟩++⟨#[47]⟩++⟨(decI n).toArray⟩)) :
  Calls Tryz.prog 87 #[.pointer (some ⟨b,0,none⟩)] w fun e w'=>e=.returned (.string t)∧But [] w w':=by
 obtain ⟨tp,htp⟩:∃ tp:ByteArray,tp=⟨(decI p).toArray⟩:=⟨_,rfl⟩
 obtain ⟨tn,htn⟩:∃ tn:ByteArray,tn=⟨(decI n).toArray⟩:=⟨_,rfl⟩
 have sp:tp.size≤40000002:=by rw [htp];exact decI_len p 4000000 hp
 have sn:tn.size≤40000002:=by rw [htn];exact decI_len n 4000000 (by rw [Int.natAbs_natCast];exact hn)
 rw [← htp,← htn] at ht
 have S1:=hide (fun W (h:RatAt W b p n)=>intString_any b 0 p W h.up (by omega) (by have:=digU_len p.natAbs _ hp;omega) tp htp)
 have S2:=hide (fun W (h:RatAt W b p n)=>intString_any b 2 n W h.low (by rw [Int.natAbs_natCast];omega) (by rw [Int.natAbs_natCast];have:=digU_len n _ hn;omega) tn htn)
 clear htp htn hp hn
 go_enter Tryz.func87,Tryz.ntmps87
 go_wp2_with fail
 refine (unhide S1 _ h).mono ?_
 rintro e w1 ⟨rfl,B1⟩
 go_wp2_with fail
 refine (den_any b p n _ (h.but B1) hn0).mono ?_
 rintro e w2 ⟨rfl,hw⟩
 obtain rfl:=hw.symm
 clear hw
 go_wp2_with fail
 refine (unhide S2 _ (h.but B1)).mono ?_
 rintro e w2 ⟨rfl,B2⟩
 go_wp2
 go_ret
 exact ⟨by rw [unhide ht];rfl,B1.trans' B2⟩
theorem ratRatString_any (b:Nat) (p:Int) (n:Nat) (w:World) (h:RatAt w b p n) (hn0:0<n) (hp:(wd 4294967296 p.natAbs).length≤4000000) (hn:(wd 4294967296 n).length≤4000000) (t:ByteArray) (ht:Hid (t=ratTxt p n)) :
  Calls Tryz.prog 39 #[.pointer (some ⟨b,0,none⟩)] w fun e w'=>e=.returned (.string t)∧But [] w w':=by
 have IS:=hide (ratIsIntU_any b p n w h hn0 (by omega))
 by_cases h1:n=1
 ·have e1:Hid (t=⟨(decI p).toArray⟩):=by show _=_;rw [unhide ht,ratTxt,if_pos h1]
  rw [decide_eq_true h1] at IS
  have S1:=hide (fun W (h:RatAt W b p n)=>intString_any b 0 p W h.up (by omega) (by have:=digU_len p.natAbs _ hp;omega) t e1)
  clear ht hp hn h1
  go_enter Tryz.func39,Tryz.ntmps39
  go_wp2_with fail
  refine (unhide IS).mono ?_
  rintro e w1 ⟨rfl,B1⟩
  go_wp2_with fail
  refine (unhide S1 _ (h.but B1)).mono ?_
  rintro e w2 ⟨rfl,B2⟩
  go_wp2
  go_ret
  exact ⟨rfl,B1.trans' B2⟩
 ·have e1:Hid (t=⟨(decI p).toArray⟩++⟨#[47]⟩++⟨(decI n).toArray⟩):=by show _=_;rw [unhide ht,ratTxt,if_neg h1]
  rw [decide_eq_false h1] at IS
  have S1:=hide (fun W (h:RatAt W b p n)=>ratString_any b p n W h hn0 hp hn t e1)
  clear ht hp hn h1
  go_enter Tryz.func39,Tryz.ntmps39
  go_wp2_with fail
  refine (unhide IS).mono ?_
  rintro e w1 ⟨rfl,B1⟩
  go_wp2_with fail
  refine (unhide S1 _ (h.but B1)).mono ?_
  rintro e w2 ⟨rfl,B2⟩
  go_wp2
  go_ret
  exact ⟨rfl,B1.trans' B2⟩
theorem refText_any (b:Nat) (f:Rat) (w:World) (h:RatIs w b f) (hl:LenU f 4000000) (t:ByteArray) (ht:Hid (t=ratTxt f.num f.den)) :
  Calls Tryz.prog 10 #[.pointer (some ⟨b,0,none⟩)] w fun e w'=>e=.returned (.string t)∧But [] w w':=by
 have RS:=hide (ratRatString_any b f.num f.den w h (Nat.pos_of_ne_zero f.den_nz) hl.1 hl.2 t ht)
 clear h hl ht
 go_enter Tryz.func10,Tryz.ntmps10
 go_wp2_with fail
 refine (unhide RS).mono ?_
 rintro e w1 ⟨rfl,hb⟩
 go_wp2
 go_ret
 exact ⟨rfl,hb⟩
end Go.Proofs.YtollloafckcogaaGreatDoor
