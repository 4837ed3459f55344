/- The order of whole numbers with signs, a -/
import Derived.Test.YtagmkkiagjmimaaGreatDoorXH6
import Derived.Test.YtagmkkiagjmimaaGreatDoorXN12f
namespace Go.Proofs.YtagmkkiagjmimaaGreatDoor
set_option linter.unusedVariables false
open Go.Proofs.Tryz
open Go.RowKit
set_option maxHeartbeats 16000000
set_option maxRecDepth 100000
def vw (x y:Int):Int:=if x<y then -1 else if x=y then 0 else 1
theorem qcs (x y:Int) (hx:x<0) (hy:y<0):vw x y=-zz x.natAbs y.natAbs:=by(
 unfold vw zz
 by_cases h1:x<y
 ·rw[if_pos h1,if_neg (by omega),if_neg (by omega)]
 ·by_cases h2:x=y
  ·rw[if_neg h1,if_pos h2,if_neg (by omega),if_pos (by omega)];rfl
  ·rw[if_neg h1,if_neg h2,if_pos (by omega)];rfl)
theorem qcq (x y:Int) (hx:0≤x) (hy:0≤y):vw x y=zz x.natAbs y.natAbs:=by(
 unfold vw zz
 by_cases h1:x<y
 ·rw[if_pos h1,if_pos (by omega)]
 ·by_cases h2:x=y
  ·rw[if_neg h1,if_pos h2,if_neg (by omega),if_pos (by omega)]
  ·rw[if_neg h1,if_neg h2,if_neg (by omega),if_neg (by omega)])
theorem zly (m n:Nat):-1≤zz m n∧zz m n≤1:=by
 rcases zbu m n with ⟨-,h⟩|⟨-,h⟩|⟨-,h⟩ <;> omega
theorem l5 (b o b' o':Nat) (x y:Int) (w:World) (hx:ze w b o x) (hy:ze w b' o' y) (hlx:(wd 4294967296 x.natAbs).length<2147483648) (hly:(wd 4294967296 y.natAbs).length<2147483648) :
   Calls prog 84 #[.pointer (some ⟨b,o,none⟩),.pointer (some ⟨b',o',none⟩)] w fun e w'=>e=.returned (.int .i64 (vw x y))∧∃ q,w'=w.drewN q:=by(
 obtain⟨h0,v0,h1,hv⟩:=hx
 obtain⟨g0,v1,g1,hv'⟩:=hy
 by_cases hxn:x<0 <;> by_cases hyn:y<0
 ·(
 rw[decide_eq_true hxn] at h0
 rw[decide_eq_true hyn] at g0
 have HC:Hid (vw x y=-zz x.natAbs y.natAbs):=qcs x y hxn hyn
 obtain⟨c1,c2⟩:=zly x.natAbs y.natAbs
 go_enter func84,ntmps84
 go_wp2
 go_quiet (fail)
 go_wp2
 obtain⟨W,hW⟩:∃ W,W=w.drewN nq:=⟨_,rfl⟩
 have k0:W.cell? ⟨b,o,none⟩=some (.bool true):=by rw[hW];exact h0
 have k1:W.cell? ⟨b,o+1,none⟩=some v0:=by rw[hW];exact h1
 have l1:W.cell? ⟨b',o' + 1,none⟩=some v1:=by rw[hW];exact g1
 have hva:Sl .u32 W v0 (wd 4294967296 x.natAbs):=by rw[hW];exact hv
 have hvb:Sl .u32 W v1 (wd 4294967296 y.natAbs):=by rw[hW];exact hv'
 rw[← hW]
 have HW:=af hW
 clear hW
 go_quiet ((go_at_call 163;refine Calls.quiet_of (zdz v0 v1 x.natAbs y.natAbs _ ?_ ?_ hlx hly);exact hva;exact hvb))
 generalize zz x.natAbs y.natAbs=cc at *
 go_wp2
 go_ret
 exact⟨by rw[ae HC];rfl,by rw[ae HW];exact dr1 _ _ _⟩)
 ·(
 rw[decide_eq_true hxn] at h0
 rw[decide_eq_false hyn] at g0
 have HC:Hid (vw x y=-1):=by show _=_;unfold vw;rw[if_pos (by omega)]
 go_enter func84,ntmps84
 go_wp2
 go_quiet (fail)
 go_wp2
 go_ret
 exact⟨by rw[ae HC];rfl,_,rfl⟩)
 ·(
 rw[decide_eq_false hxn] at h0
 rw[decide_eq_true hyn] at g0
 have HC:Hid (vw x y=1):=by show _=_;unfold vw;rw[if_neg (by omega),if_neg (by omega)]
 go_enter func84,ntmps84
 go_wp2
 go_quiet (fail)
 go_wp2
 go_ret
 exact⟨by rw[ae HC];rfl,_,rfl⟩)
 ·(
 rw[decide_eq_false hxn] at h0
 rw[decide_eq_false hyn] at g0
 have HC:Hid (vw x y=zz x.natAbs y.natAbs):=qcq x y (by omega) (by omega)
 obtain⟨c1,c2⟩:=zly x.natAbs y.natAbs
 go_enter func84,ntmps84
 go_wp2
 go_quiet (fail)
 go_wp2
 obtain⟨W,hW⟩:∃ W,W=w.drewN nq:=⟨_,rfl⟩
 have k0:W.cell? ⟨b,o,none⟩=some (.bool false):=by rw[hW];exact h0
 have k1:W.cell? ⟨b,o+1,none⟩=some v0:=by rw[hW];exact h1
 have l1:W.cell? ⟨b',o' + 1,none⟩=some v1:=by rw[hW];exact g1
 have hva:Sl .u32 W v0 (wd 4294967296 x.natAbs):=by rw[hW];exact hv
 have hvb:Sl .u32 W v1 (wd 4294967296 y.natAbs):=by rw[hW];exact hv'
 rw[← hW]
 have HW:=af hW
 clear hW
 go_quiet ((go_at_call 163;refine Calls.quiet_of (zdz v0 v1 x.natAbs y.natAbs _ ?_ ?_ hlx hly);exact hva;exact hvb))
 generalize zz x.natAbs y.natAbs=cc at *
 go_wp2
 go_ret
 exact⟨by rw[ae HC];rfl,by rw[ae HW];exact dr1 _ _ _⟩))
theorem zvo (x y:Int):-1≤vw x y∧vw x y≤1:=by(
 unfold vw
 split
 ·omega
 ·split <;> omega)
theorem qcr (n:Int):(vw n 1==0)=decide (n=1):=by(
 unfold vw
 by_cases h1:n<1
 ·rw[if_pos h1,decide_eq_false (by omega)];rfl
 ·by_cases h2:n=1
  ·rw[if_neg h1,if_pos h2,decide_eq_true h2];rfl
  ·rw[if_neg h1,if_neg h2,decide_eq_false h2];rfl)
theorem zmr (xb:Nat) (x:Int) (nx:Nat) (w:World) (hx:zu w xb x (nx:Int)) (hnx:0<nx) (hnxl:(wd 4294967296 nx).length<8388608) :
   Calls prog 145 #[.pointer (some ⟨xb,0,none⟩)] w fun e w'=>e=.returned (.bool (decide (nx=1)))∧But [] w w':=by(
 have DX:=af (j4 xb x nx w hx hnx)
 have one:(wd 4294967296 (1:Int).natAbs).length<2147483648:=by
  have:=dh 1 (by omega)
  simpa using Nat.lt_of_le_of_lt this (by omega)
 have CM:=af (fun W b (h1:ze W xb 2 (nx:Int)) (h2:ze W b 0 1)=>l5 xb 2 b 0 (nx:Int) 1 W h1 h2 (by rw[Int.natAbs_natCast];omega) one)
 obtain⟨c1,c2⟩:=zvo (nx:Int) 1
 have hc:Hid ((vw (nx:Int) 1==0)=decide (nx=1)):=by
  show _=_
  rw[qcr]
  exact decide_eq_decide.2 (by omega)
 generalize vw (nx:Int) 1=cd at CM c1 c2 hc
 clear one
 go_enter func145,ntmps145
 go_wp2_with fail
 refine (ae DX).mono ?_
 rintro e w1 ⟨rfl,hw⟩
 obtain rfl:=hw.symm
 clear hw
 go_wp2_with fail
 refine (ut 1 _ (by omega) (by omega)).mono ?_
 rintro e w2 ⟨rfl,B2,I2,S2⟩
 go_wp2_with fail
 refine (ae CM _ _ (hx.low.but B2) I2).mono ?_
 rintro e w3 ⟨rfl,q,rfl⟩
 clear CM DX
 go_wp2
 go_ret
 exact⟨by rw[← ae hc];rfl,B2.drewN _⟩)
def zbt (z:Int):List UInt8:=if z<0 then 45::Lib.decDigits z.natAbs else Lib.decDigits z.natAbs
theorem zyd {w:World} {base:Nat} {e:TypeId} {v:Value} {ds:List UInt8} (h:w.ownsRow base e 1 v (ds.length+1) (ds.map u8v++[.int .u8 45])) :
   ∃ g cap,v=.slice (some ⟨g,0,none⟩) (ds.length+1) cap∧base≤g∧ds.length+1≤cap∧Row .u8 w g ((ds++[45]).map UInt8.toNat):=by(
 have h':w.ownsRow base e 1 v (ds++[45]).length ((ds++[45]).map u8v):=by rw[List.length_append,List.map_append];exact h
 have h2:=zdf h' (by simp)
 rw[List.length_append] at h2
 exact h2)
theorem zqp (z:Int) (hz:z≠0) (ds:List UInt8) (h:vv z.natAbs=ds):zbt z=(if z<0 then ds++[45] else ds).reverse:=by
 rw[zbt,← zgy _ (by omega),h]
 split <;> simp
structure qfa (w:World) (n m:Nat) (ds:List UInt8) (vb va:Value) (wr:World):Prop where
 words:Sl .u32 wr va (wd 4294967296 m)
 own:wr.ownsRow w.heap.size 5 1 vb ds.length (ds.map u8v)
 but:But [] w wr
 dig:vv n=ds++vv m
 len:(wd 4294967296 m).length<1073741824
theorem zsl (b o:Nat) (z:Int) (w:World) (h:ze w b o z) (hz:z≠0) (hl:(wd 4294967296 z.natAbs).length<1073741824) (hd:(vv z.natAbs).length<1073741824) (t:ByteArray) (ht:Hid (t=⟨(zbt z).toArray⟩)) :
   Calls prog 192 #[.pointer (some ⟨b,o,none⟩),.int .i64 10] w fun e w'=>e=.returned (.string t)∧But [] w w':=by(
 obtain⟨b0,vb,b1,hvb⟩:=h
 obtain⟨i0,hi,hz0,hz1,hz2⟩:=zkg
 have hvb':=hvb
 obtain⟨a,cap,rfl,-,-⟩:=hvb'
 have n0:(((wd 4294967296 z.natAbs).length:Int)==0)=false:=by
  have:=zo (B:=4294967296) (by omega) z.natAbs
  simp;intro h;simp[h] at this;omega
 have HV:=af hvb
 have HL:=af hl
 clear hvb hl
 generalize (wd 4294967296 z.natAbs).length=l at n0 b1 HV
 go_enter func192,ntmps192
 go_wp2_with fail
 refine (zei _ _ _ (ae HV) (by have:=ae HL;omega)).mono ?_
 rintro e w1 ⟨v1,rfl,hv1,hb1,-⟩
 have B0:=hb1.ag b0 (by simp)
 go_wp2
 go_loopg [5,6,7] z.natAbs (fun m vb va vr wr=>∃ ds:List UInt8,qfa w z.natAbs m ds vb va wr)
 case atStart=>exact⟨[],⟨hv1,World.ownsRow_nil _ _ _ _,hb1,rfl,ae HL⟩⟩
 case round =>(
 obtain⟨ds,hI⟩:=hrel
 have hlz:=zo (B:=4294967296) (by omega) gk
 obtain⟨hsl,hown,hbut,hdig,hlen⟩:=hI
 have hsl':=hsl
 obtain⟨aa,ca,rfl,-,-⟩:=hsl'
 have hdl:ds.length<1073741824:=by have:=congrArg List.length hdig;rw[List.length_append] at this;omega
 generalize hla:(wd 4294967296 gk).length=la at *
 by_cases hm:gk=0
 ·(
 have:la=0:=by omega
 subst this
 subst hm
 rw[om,List.append_nil] at hdig
 have hn0:0<ds.length:=by
  rw[← hdig,rf (by omega)];simp
 have c0:=hbut.ag b0 (by simp)
 have HDG:=af hdig
 clear hdig hla hlen hsl hlz
 by_cases hneg:z<0
 ·(
 rw[decide_eq_true hneg] at c0
 have HT:Hid (t=⟨(ds++[45]).reverse.toArray⟩):=by show _=_;rw[ae ht,zqp z hz ds (ae HDG),if_pos hneg]
 go_wp2_with (at_builtin;refine wpList_append_own _ rfl _ _ 185 rfl w.heap.size 5 i0 (.int .u8 0) 1 1 underlying185 hi hz0 hz1 hz2 rfl (by decide) _ _ _ rfl (hown.alloc _) ⟨wr.heap.size,0,none⟩ 1 1 [_] rfl rfl (cell_one_new _ _ _) (by intro u hu;simp at hu;subst hu;rfl) (by unfold maxLen;omega) (by omega) (by have:=hbut.size;simp;omega) ?_;intro v3 w3 hown3 hgrow3 hnil3;have hBW:But [] w w3:=(hbut.alloc _).grown hgrow3 (fun k hk=>(hown.lt k hk).1);obtain⟨g,cg,rfl,hg,hcg,hrow⟩:=zyd hown3;clear hown3 hgrow3 hnil3)
 go_loopw [8,9,10] (fun i j x wq=>∃ (k q:Nat) (cs:List Nat),i=.int .i64 k∧j=.int .i64 q∧k≤q+1∧Hid (k+q+1=ds.length+1∧uy ((ds++[45]).map UInt8.toNat) cs k∧Row .u8 wq g cs∧But [] w wq)) (fun i _ _ _=>ds.length+1-(intOf i).toNat)
 case atStart=>exact⟨0,ds.length+1-1,(ds++[45]).map UInt8.toNat,rfl,by congr 1 <;> omega,by omega,by omega,uy.start _,hrow,hBW⟩
 case round =>(
 obtain⟨k,q,cs,rfl,rfl,hkq,HJ⟩:=hrel
 rename World=>wq
 have hbl:((ds++[45]).map UInt8.toNat).length=ds.length+1:=by simp
 have hcl:cs.length=ds.length+1:=by rw[(ae HJ).2.1.len,hbl]
 have hsum:=(ae HJ).1
 by_cases hlt:k<q
 ·(
 obtain⟨ck,fk⟩:=(ae HJ).2.2.1 k (by omega)
 obtain⟨cq,fq⟩:=(ae HJ).2.2.1 q (by omega)
 have ST:=af ((ae HJ).2.1.step (by rw[hbl];omega))
 have hq:q=ds.length+1-1-k:=by omega
 rw[hbl,← hq] at ST
 have HC:=af hcl
 have HS:=af hsum
 have ne1:k≠q:=by omega
 have hk1:k<ds.length+1:=by omega
 have hq1:q<ds.length+1:=by omega
 clear hcl hbl hsum hq
 generalize hx:cs[k]?.getD 0=x at *
 generalize hy:cs[q]?.getD 0=y at *
 clear hx hy
 go_wp2
 refine⟨⟨k+1,q-1,(cs.set k y).set q x,by go_num,by rw[Int.ofNat_sub (by omega)];rfl,by omega,by have:=ae HS;omega,ae ST,((ae HJ).2.2.1.set k (by rw[ae HC];have:=ae HS;omega) y).set q (by rw[List.length_set,ae HC];have:=ae HS;omega) x,((ae HJ).2.2.2.setCell (.inr hg) _).setCell (.inr hg) _⟩,?_⟩
 have:=ae HS
 simp[intOf];omega)
 ·(
 have hfin:cs=((ds++[45]).map UInt8.toNat).reverse:=(ae HJ).2.1.fin (by rw[hbl];omega)
 have hcv:=run_convert_bytes_back (P:=prog) wq 185 9 5 ⟨g,0,none⟩ cg (ds++[45]).reverse underlying185 underlying5 underlying9 (fun j hj=>by
  have h1:=((ae HJ).2.2.1 j (by rw[hcl];simpa using hj)).1
  rw[hfin,← List.map_reverse,List.getElem?_map,List.getElem?_eq_getElem hj] at h1
  have e:(⟨g,0,none⟩:Addr).add j=⟨g,j,none⟩:=by by_cases h:j=0 <;> simp[Addr.add,h]
  rw[e];exact h1)
 rw[← ae HT] at hcv
 simp only[List.length_reverse,List.length_append,List.length_cons,List.length_nil,Nat.zero_add] at hcv
 have HB:=af (ae HJ).2.2.2
 clear hcl hbl hfin hsum HJ
 go_wp2
 go_ret
 exact⟨rfl,ae HB⟩)))
 ·(
 rw[decide_eq_false hneg] at c0
 have HT:Hid (t=⟨ds.reverse.toArray⟩):=by show _=_;rw[ae ht,zqp z hz ds (ae HDG),if_neg hneg]
 obtain⟨g,cg,rfl,hg,hcg,hrow⟩:=zdf hown hn0
 have hBW:=hbut
 go_wp2
 go_loopw [8,9,10] (fun i j x wq=>∃ (k q:Nat) (cs:List Nat),i=.int .i64 k∧j=.int .i64 q∧k≤q+1∧Hid (k+q+1=ds.length∧uy ((ds).map UInt8.toNat) cs k∧Row .u8 wq g cs∧But [] w wq)) (fun i _ _ _=>ds.length-(intOf i).toNat)
 case atStart=>exact⟨0,ds.length-1,(ds).map UInt8.toNat,rfl,by congr 1 <;> omega,by omega,by omega,uy.start _,hrow,hBW⟩
 case round =>(
 obtain⟨k,q,cs,rfl,rfl,hkq,HJ⟩:=hrel
 rename World=>wq
 have hbl:((ds).map UInt8.toNat).length=ds.length:=by simp
 have hcl:cs.length=ds.length:=by rw[(ae HJ).2.1.len,hbl]
 have hsum:=(ae HJ).1
 by_cases hlt:k<q
 ·(
 obtain⟨ck,fk⟩:=(ae HJ).2.2.1 k (by omega)
 obtain⟨cq,fq⟩:=(ae HJ).2.2.1 q (by omega)
 have ST:=af ((ae HJ).2.1.step (by rw[hbl];omega))
 have hq:q=ds.length-1-k:=by omega
 rw[hbl,← hq] at ST
 have HC:=af hcl
 have HS:=af hsum
 have ne1:k≠q:=by omega
 have hk1:k<ds.length:=by omega
 have hq1:q<ds.length:=by omega
 clear hcl hbl hsum hq
 generalize hx:cs[k]?.getD 0=x at *
 generalize hy:cs[q]?.getD 0=y at *
 clear hx hy
 go_wp2
 refine⟨⟨k+1,q-1,(cs.set k y).set q x,by go_num,by rw[Int.ofNat_sub (by omega)];rfl,by omega,by have:=ae HS;omega,ae ST,((ae HJ).2.2.1.set k (by rw[ae HC];have:=ae HS;omega) y).set q (by rw[List.length_set,ae HC];have:=ae HS;omega) x,((ae HJ).2.2.2.setCell (.inr hg) _).setCell (.inr hg) _⟩,?_⟩
 have:=ae HS
 simp[intOf];omega)
 ·(
 have hfin:cs=((ds).map UInt8.toNat).reverse:=(ae HJ).2.1.fin (by rw[hbl];omega)
 have hcv:=run_convert_bytes_back (P:=prog) wq 185 9 5 ⟨g,0,none⟩ cg (ds).reverse underlying185 underlying5 underlying9 (fun j hj=>by
  have h1:=((ae HJ).2.2.1 j (by rw[hcl];simpa using hj)).1
  rw[hfin,← List.map_reverse,List.getElem?_map,List.getElem?_eq_getElem hj] at h1
  have e:(⟨g,0,none⟩:Addr).add j=⟨g,j,none⟩:=by by_cases h:j=0 <;> simp[Addr.add,h]
  rw[e];exact h1)
 rw[← ae HT] at hcv
 rw[List.length_reverse] at hcv
 have HB:=af (ae HJ).2.2.2
 clear hcl hbl hfin hsum HJ
 go_wp2
 go_ret
 exact⟨rfl,ae HB⟩))))
 ·(
 have hla0:0<la:=by omega
 have HA:=af hla
 have HDG:=af hdig
 clear hla hdig hlz
 go_wp2_with fail
 refine (zkr _ gk 10 _ hsl (by omega) (by omega) (by rw[ae HA];exact hlen)).mono ?_
 rintro e w2 ⟨v2,rfl,hv2,hb2,hfr⟩
 have hr10:gk%10<10:=Nat.mod_lt _ (by omega)
 generalize hrr:gk%10=r at *
 have HR:=af hrr
 clear hrr
 have hown2:=zah hown hb2
 go_wp2_with (at_builtin;refine wpList_append_own _ rfl _ _ 185 rfl w.heap.size 5 i0 (.int .u8 0) 1 1 underlying185 hi hz0 hz1 hz2 rfl (by decide) _ _ _ rfl (hown2.alloc _) ⟨w2.heap.size,0,none⟩ 1 1 [_] rfl rfl (cell_one_new _ _ _) (by intro u hu;simp at hu;subst hu;rfl) (by unfold maxLen;omega) (by omega) (by have:=hbut.size;have:=hb2.size;simp;omega) ?_;intro v3 w3 hown3 hgrow3 hnil3)
 go_roundg (gk/10)
 case measure=>exact Nat.div_lt_self (by omega) (by omega)
 case rel =>(
 refine⟨ds++[UInt8.ofNat (48+r)],qaj hv2 hgrow3 (fun k hk=>(hown.lt k hk).2) hfr,?_,((hbut.trans' hb2).alloc _).grown hgrow3 (fun k hk=>(hown.lt k hk).1),?_,?_⟩
 ·rw[List.length_append,List.map_append]
  rw[zhz r hr10] at hown3
  exact hown3
 ·rw[ae HDG,rf (by omega),ae HR,List.append_assoc];rfl
 ·have h1:=am (B:=4294967296) (by omega) gk _ (Nat.le_refl _)
  have h2:=aj (B:=4294967296) (by omega) (gk/10) _ (Nat.lt_of_le_of_lt (Nat.div_le_self _ _) h1)
  rw[ae HA] at h2
  omega))))
theorem zsm (b o:Nat) (z:Int) (w:World) (h:ze w b o z) (hl:(wd 4294967296 z.natAbs).length<1073741824) (hd:(vv z.natAbs).length<1073741824) (t:ByteArray) (ht:Hid (t=⟨(zbt z).toArray⟩)) :
   Calls prog 192 #[.pointer (some ⟨b,o,none⟩),.int .i64 10] w fun e w'=>e=.returned (.string t)∧But [] w w':=by(
 by_cases hz:z=0
 ·(
 subst hz
 obtain⟨b0,vb,b1,hvb⟩:=h
 simp only[Int.natAbs_zero,zq] at hvb
 obtain⟨a,cap,rfl,-,-⟩:=hvb
 have e:Hid (t=⟨#[48]⟩):=by
  show _=_
  rw[ae ht]
  have:zbt 0=[48]:=by rw[zbt,if_neg (by omega),Int.natAbs_zero,Lib.decDigits,dif_pos (by omega)];rfl
  rw[this]
 clear ht hl hd b0
 go_enter func192,ntmps192
 go_wp2
 go_ret
 exact⟨by rw[ae e];rfl,But.refl _ _⟩)
 ·exact zsl b o z w h hz hl hd t ht)
theorem zcv (b o:Nat) (z:Int) (w:World) (h:ze w b o z) (hl:(wd 4294967296 z.natAbs).length<1073741824) (hd:(vv z.natAbs).length<1073741824) (t:ByteArray) (ht:Hid (t=⟨(zbt z).toArray⟩)) :
   Calls prog 146 #[.pointer (some ⟨b,o,none⟩)] w fun e w'=>e=.returned (.string t)∧But [] w w':=by(
 go_enter func146,ntmps146
 go_wp2_with fail
 refine (zsm b o z _ h hl hd t ht).mono ?_
 rintro e w1 ⟨rfl,hb⟩
 go_wp2
 go_ret
 exact⟨rfl,hb⟩)
def zif (p:Int) (n:Nat):ByteArray:=if n=1 then ⟨(zbt p).toArray⟩ else ⟨(zbt p).toArray⟩++⟨#[47]⟩++⟨(zbt n).toArray⟩
theorem zhr (X n:Nat) (h:(wd 4294967296 X).length≤n):(vv X).length≤10*n:=by(
 refine zcb X _ ?_
 have h1:=am (B:=4294967296) (by omega) X n h
 refine Nat.lt_of_lt_of_le h1 ?_
 rw[Nat.pow_mul]
 exact Nat.pow_le_pow_left (by omega) n)
theorem zsy (z:Int) (n:Nat) (h:(wd 4294967296 z.natAbs).length≤n):(zbt z).length≤10*n+2:=by(
 have hd:(Lib.decDigits z.natAbs).length≤10*n+1:=by
  rcases Nat.eq_zero_or_pos z.natAbs with h0 | h0
  ·rw[h0,Lib.decDigits_length,Lib.nDigits_small (by omega)];omega
  ·rw[← zgy _ h0,List.length_reverse]
   have:=zhr z.natAbs n h
   omega
 unfold zbt
 split
 ·rw[List.length_cons];omega
 ·omega)
theorem zmq (b:Nat) (p:Int) (n:Nat) (w:World) (h:zu w b p n) (hn0:0<n) (hp:(wd 4294967296 p.natAbs).length≤4000000) (hn:(wd 4294967296 n).length≤4000000) (t:ByteArray) (ht:Hid (t=⟨(zbt p).toArray⟩++⟨#[47]⟩++⟨(zbt n).toArray⟩)) :
   Calls prog 147 #[.pointer (some ⟨b,0,none⟩)] w fun e w'=>e=.returned (.string t)∧But [] w w':=by(
 obtain⟨tp,htp⟩:∃ tp:ByteArray,tp=⟨(zbt p).toArray⟩:=⟨_,rfl⟩
 obtain⟨tn,htn⟩:∃ tn:ByteArray,tn=⟨(zbt n).toArray⟩:=⟨_,rfl⟩
 have sp:tp.size≤40000002:=by rw[htp];exact zsy p 4000000 hp
 have sn:tn.size≤40000002:=by rw[htn];exact zsy n 4000000 (by rw[Int.natAbs_natCast];exact hn)
 rw[← htp,← htn] at ht
 have S1:=af (fun W (h:zu W b p n)=>zcv b 0 p W h.up (by omega) (by have:=zhr p.natAbs _ hp;omega) tp htp)
 have S2:=af (fun W (h:zu W b p n)=>zcv b 2 n W h.low (by rw[Int.natAbs_natCast];omega) (by rw[Int.natAbs_natCast];have:=zhr n _ hn;omega) tn htn)
 clear htp htn hp hn
 go_enter func147,ntmps147
 go_wp2_with fail
 refine (ae S1 _ h).mono ?_
 rintro e w1 ⟨rfl,B1⟩
 go_wp2_with fail
 refine (j4 b p n _ (h.but B1) hn0).mono ?_
 rintro e w2 ⟨rfl,hw⟩
 obtain rfl:=hw.symm
 clear hw
 go_wp2_with fail
 refine (ae S2 _ (h.but B1)).mono ?_
 rintro e w2 ⟨rfl,B2⟩
 go_wp2
 go_ret
 exact⟨by rw[ae ht];rfl,B1.trans' B2⟩)
theorem zih (b:Nat) (p:Int) (n:Nat) (w:World) (h:zu w b p n) (hn0:0<n) (hp:(wd 4294967296 p.natAbs).length≤4000000) (hn:(wd 4294967296 n).length≤4000000) (t:ByteArray) (ht:Hid (t=zif p n)) :
   Calls prog 65 #[.pointer (some ⟨b,0,none⟩)] w fun e w'=>e=.returned (.string t)∧But [] w w':=by(
 have IS:=af (zmr b p n w h hn0 (by omega))
 by_cases h1:n=1
 ·(
 have e1:Hid (t=⟨(zbt p).toArray⟩):=by show _=_;rw[ae ht,zif,if_pos h1]
 rw[decide_eq_true h1] at IS
 have S1:=af (fun W (h:zu W b p n)=>zcv b 0 p W h.up (by omega) (by have:=zhr p.natAbs _ hp;omega) t e1)
 clear ht hp hn h1
 go_enter func65,ntmps65
 go_wp2_with fail
 refine (ae IS).mono ?_
 rintro e w1 ⟨rfl,B1⟩
 go_wp2_with fail
 refine (ae S1 _ (h.but B1)).mono ?_
 rintro e w2 ⟨rfl,B2⟩
 go_wp2
 go_ret
 exact⟨rfl,B1.trans' B2⟩)
 ·(
 have e1:Hid (t=⟨(zbt p).toArray⟩++⟨#[47]⟩++⟨(zbt n).toArray⟩):=by show _=_;rw[ae ht,zif,if_neg h1]
 rw[decide_eq_false h1] at IS
 have S1:=af (fun W (h:zu W b p n)=>zmq b p n W h hn0 hp hn t e1)
 clear ht hp hn h1
 go_enter func65,ntmps65
 go_wp2_with fail
 refine (ae IS).mono ?_
 rintro e w1 ⟨rfl,B1⟩
 go_wp2_with fail
 refine (ae S1 _ (h.but B1)).mono ?_
 rintro e w2 ⟨rfl,B2⟩
 go_wp2
 go_ret
 exact⟨rfl,B1.trans' B2⟩))
theorem zre (b:Nat) (f:Rat) (w:World) (h:zi w b f) (hl:qd f 4000000) (t:ByteArray) (ht:Hid (t=zif f.num f.den)) :
   Calls prog 12 #[.pointer (some ⟨b,0,none⟩)] w fun e w'=>e=.returned (.string t)∧But [] w w':=by(
 have RS:=af (zih b f.num f.den w h (Nat.pos_of_ne_zero f.den_nz) hl.1 hl.2 t ht)
 clear h hl ht
 go_enter func12,ntmps12
 go_wp2_with fail
 refine (ae RS).mono ?_
 rintro e w1 ⟨rfl,hb⟩
 go_wp2
 go_ret
 exact⟨rfl,hb⟩)
theorem uw (x y:Int):-1≤vw x y∧vw x y≤1:=by(
 unfold vw
 split
 ·omega
 ·split <;> omega)
theorem zhu (x y:Int):vw x y=0↔x=y:=by(
 unfold vw
 split
 ·constructor <;> intro h <;> omega
 ·split <;> constructor <;> intro h <;> omega)
theorem ztb (x y:Int) (n:Nat) (hn:0<n):vw (x*(n:Int)) (y*(n:Int))=vw x y:=by(
 have hn':0<(n:Int):=by omega
 have h1:(x*(n:Int)<y*(n:Int))↔x<y:=Int.mul_lt_mul_right hn'
 have h2:(x*(n:Int)=y*(n:Int))↔x=y:=⟨fun h=>Int.eq_of_mul_eq_mul_right (by omega) h,fun h=>by rw[h]⟩
 unfold vw
 simp only[h1,h2])
theorem zrl (xb yb:Nat) (x y:Int) (nx ny:Nat) (w:World) (hx:zu w xb x (nx:Int)) (hy:zu w yb y (ny:Int)) (hnx:0<nx) (hny:0<ny) (hxl:(wd 4294967296 x.natAbs).length<8388608) (hyl:(wd 4294967296 y.natAbs).length<8388608) (hnxl:(wd 4294967296 nx).length<8388608) (hnyl:(wd 4294967296 ny).length<8388608) (P Q:Int) (hP:x*(ny:Int)=P) (hQ:y*(nx:Int)=Q) (hPl:(wd 4294967296 P.natAbs).length<8388608) (hQl:(wd 4294967296 Q.natAbs).length<8388608) :
   Calls prog 22 #[.pointer (some ⟨xb,0,none⟩),.pointer (some ⟨yb,0,none⟩)] w fun e w'=>e=.returned (.int .i64 (vw P Q))∧But [] w w':=by(
 have lx:=hx.lt
 have ly:=hy.lt
 have DX:=af (fun W (h:zu W xb x (nx:Int))=>j4 xb x nx W h hnx)
 have DY:=af (fun W (h:zu W yb y (ny:Int))=>j4 yb y ny W h hny)
 have CD:=af (l5 xb 2 yb 2 (nx:Int) (ny:Int) w hx.low hy.low (by rw[Int.natAbs_natCast];omega) (by rw[Int.natAbs_natCast];omega))
 obtain⟨c1,c2⟩:=uw (nx:Int) (ny:Int)
 have hc0:=zhu (nx:Int) (ny:Int)
 generalize vw (nx:Int) (ny:Int)=cd at CD c1 c2 hc0
 obtain⟨r1,r2⟩:=uw P Q
 by_cases he:nx=ny
 ·(
 have hcd:(cd==0)=true:=beq_iff_eq.2 (hc0.2 (by omega))
 have hR:Hid (vw P Q=vw x y):=by show _=_;rw[← hP,← hQ,he];exact ztb x y ny hny
 obtain⟨s1,s2⟩:=uw x y
 have hCM:=af (fun W (h1:ze W xb 0 x) (h2:ze W yb 0 y)=>l5 xb 0 yb 0 x y W h1 h2 (by omega) (by omega))
 clear hc0
 go_enter func22,ntmps22
 go_wp2_with fail
 refine (ae DX _ hx).mono ?_
 rintro e w1 ⟨rfl,hw⟩
 obtain rfl:=hw.symm
 clear hw
 go_wp2_with fail
 refine (ae DY _ hy).mono ?_
 rintro e w1 ⟨rfl,hw⟩
 obtain rfl:=hw.symm
 clear hw
 go_wp2_with fail
 refine (ae CD).mono ?_
 rintro e w1 ⟨rfl,q,hq⟩
 clear CD
 have KB0:But [] w w1:=by rw[hq];exact (But.refl _ _).drewN _
 have gx:=(hx.but KB0).up
 have gy:=(hy.but KB0).up
 have HB0:=af KB0
 clear hq KB0 hx hy lx ly
 go_wp2
 go_quiet ((go_at_call 84;refine Calls.quiet_of (ae hCM _ ?_ ?_);(first | exact gx | exact ze.but gx (by first | exact But.refl _ _ | exact (But.refl _ _).drewN _));(first | exact gy | exact ze.but gy (by first | exact But.refl _ _ | exact (But.refl _ _).drewN _))))
 generalize vw x y=cc at *
 go_wp2
 go_ret
 exact⟨by rw[ae hR];rfl,(ae HB0).drewN _⟩)
 ·(
 have hcd:(cd==0)=false:=beq_eq_false_iff_ne.2 (fun h=>he (by have:=hc0.1 h;omega))
 clear hc0
 go_enter func22,ntmps22
 go_wp2_with fail
 refine (ae DX _ hx).mono ?_
 rintro e w1 ⟨rfl,hw⟩
 obtain rfl:=hw.symm
 clear hw
 go_wp2_with fail
 refine (ae DY _ hy).mono ?_
 rintro e w1 ⟨rfl,hw⟩
 obtain rfl:=hw.symm
 clear hw
 go_wp2_with fail
 refine (ae CD).mono ?_
 rintro e w1 ⟨rfl,q,hq⟩
 clear CD
 have KB0:But [] w w1:=by rw[hq];exact (But.refl _ _).drewN _
 have gx:=hx.but KB0
 have gy:=hy.but KB0
 have lx1:=gx.lt
 have ly1:=gy.lt
 have HB0:=af KB0
 clear hq KB0 hx hy lx ly
 go_wp2
 go_region_with (first
  | (go_at_call_of 83 (Value.pointer (some ⟨yb,0,none⟩));refine (ae DY _ ?_).mono ?_;(refine gy.but ?_;repeat (first | assumption | exact But.refl _ _ | apply But.drew | apply But.alloc));rintro e w' ⟨rfl,rfl⟩)
  | (go_at_call_of 83 (Value.pointer (some ⟨xb,0,none⟩));refine (ae DX _ ?_).mono ?_;(refine gx.but ?_;repeat (first | assumption | exact But.refl _ _ | apply But.drew | apply But.alloc));rintro e w' ⟨rfl,rfl⟩)
  | (go_at_call_of 85 (Value.pointer (some ⟨xb,0,none⟩));refine (ji _ xb 0 yb 2 x (ny:Int) P hP w1 _ ?_ ?_ ?_ gx.up gy.low hxl (by rw[Int.natAbs_natCast];exact hnyl) hPl).mono ?_;(first | exact zks _ _ | exact zgc _ _ _ | exact zgb _ _ _);(repeat (first | assumption | exact But.refl _ _ | apply But.drew | apply But.alloc));omega;rintro e W1 ⟨rfl,KB1,KA1,KS1,KI1,KL1⟩)
  | (go_at_call_of 85 (Value.pointer (some ⟨yb,0,none⟩));refine (ji _ yb 0 xb 2 y (nx:Int) Q hQ w1 _ ?_ ?_ ?_ gy.up gx.low hyl (by rw[Int.natAbs_natCast];exact hnxl) hQl).mono ?_;(first | exact jb _ _ | exact KS1 _ (by omega) (zgc _ _ _) | exact KS1 _ (by omega) (zgb _ _ _));(repeat (first | assumption | exact But.refl _ _ | apply But.drew | apply But.alloc));(have:=KB1.size;omega);rintro e W2 ⟨rfl,KB2,KA2,KS2,KI2,KL2⟩)
  | (go_at_call 84;refine (l5 _ 0 _ 0 P Q _ (KI2 _ _ _ ?_ ?_) KA2 (by omega) (by omega)).mono ?_;(have:=KA1.lt;omega);(refine KA1.but ?_;repeat (first | exact But.refl _ _ | apply But.drew | apply But.alloc));rintro e W3 ⟨rfl,q3,rfl⟩))
 all_goals go_wp2
 all_goals go_ret
 all_goals exact⟨rfl,(ae HB0).trans' (KB2.trans' ((But.refl _ _).drewN _))⟩))
end Go.Proofs.YtagmkkiagjmimaaGreatDoor
