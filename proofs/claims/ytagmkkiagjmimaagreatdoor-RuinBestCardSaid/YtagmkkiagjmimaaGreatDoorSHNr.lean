/- A whole number's decimal digits, as the  -/
import Derived.Test.YtagmkkiagjmimaaGreatDoorSHG
namespace Go.Proofs.YtagmkkiagjmimaaGreatDoor
set_option linter.unusedVariables false
open Go.Proofs.Tryz
open Go.RowKit
set_option maxHeartbeats 4000000
set_option maxRecDepth 100000
def zba (z:Int):List UInt8:=if z<0 then 45::Lib.decDigits z.natAbs else Lib.decDigits z.natAbs
theorem zyb {w:World} {base:Nat} {e:TypeId} {v:Value} {ds:List UInt8} (h:w.ownsRow base e 1 v (ds.length+1) (ds.map u8v++[.int .u8 45])) :
   ∃ g cap,v=.slice (some ⟨g,0,none⟩) (ds.length+1) cap∧base≤g∧ds.length+1≤cap∧Row .u8 w g ((ds++[45]).map UInt8.toNat):=by(
 have h':w.ownsRow base e 1 v (ds++[45]).length ((ds++[45]).map u8v):=by rw[List.length_append,List.map_append];exact h
 have h2:=zcl h' (by simp)
 rw[List.length_append] at h2
 exact h2)
theorem zpz (z:Int) (hz:z≠0) (ds:List UInt8) (h:ko z.natAbs=ds):zba z=(if z<0 then ds++[45] else ds).reverse:=by
 rw[zba,← zfz _ (by omega),h]
 split <;> simp
structure qgm (w:World) (n m:Nat) (ds:List UInt8) (vb va:Value) (wr:World):Prop where
 words:Sl .u32 wr va (wd 4294967296 m)
 own:wr.ownsRow w.heap.size 5 1 vb ds.length (ds.map u8v)
 but:But [] w wr
 dig:ko n=ds++ko m
 len:(wd 4294967296 m).length<1073741824
theorem zrr (b o:Nat) (z:Int) (w:World) (h:za w b o z) (hz:z≠0) (hl:(wd 4294967296 z.natAbs).length<1073741824) (hd:(ko z.natAbs).length<1073741824) (t:ByteArray) (ht:Hid (t=⟨(zba z).toArray⟩)) :
   Calls prog 192 #[.pointer (some ⟨b,o,none⟩),.int .i64 10] w fun e w'=>e=.returned (.string t)∧But [] w w':=by(
 obtain⟨b0,vb,b1,hvb⟩:=h
 obtain⟨i0,hi,hz0,hz1,hz2⟩:=zjl
 have hvb':=hvb
 obtain⟨a,cap,rfl,-,-⟩:=hvb'
 have n0:(((wd 4294967296 z.natAbs).length:Int)==0)=false:=by
  have:=ze (B:=4294967296) (by omega) z.natAbs
  simp;intro h;simp[h] at this;omega
 have HV:=af hvb
 have HL:=af hl
 clear hvb hl
 generalize (wd 4294967296 z.natAbs).length=l at n0 b1 HV
 go_enter func192,ntmps192
 go_wp2_with fail
 refine (zdt _ _ _ (ae HV) (by have:=ae HL;omega)).mono ?_
 rintro e w1 ⟨v1,rfl,hv1,hb1,-⟩
 have B0:=hb1.ag b0 (by simp)
 go_wp2
 go_loopg [5,6,7] z.natAbs (fun m vb va vr wr=>∃ ds:List UInt8,qgm w z.natAbs m ds vb va wr)
 case atStart=>exact⟨[],⟨hv1,World.ownsRow_nil _ _ _ _,hb1,rfl,ae HL⟩⟩
 case round =>(
 obtain⟨ds,hI⟩:=hrel
 have hlz:=ze (B:=4294967296) (by omega) gk
 obtain⟨hsl,hown,hbut,hdig,hlen⟩:=hI
 have hsl':=hsl
 obtain⟨aa,ca,rfl,-,-⟩:=hsl'
 have hdl:ds.length<1073741824:=by have:=congrArg List.length hdig;rw[List.length_append] at this;omega
 generalize hla:(wd 4294967296 gk).length=la at *
 by_cases hm:gk=0
 ·(
 have:la=0:=by omega
 subst this
 subst hm
 rw[l6,List.append_nil] at hdig
 have hn0:0<ds.length:=by
  rw[← hdig,om (by omega)];simp
 have c0:=hbut.ag b0 (by simp)
 have HDG:=af hdig
 clear hdig hla hlen hsl hlz
 by_cases hneg:z<0
 ·(
 rw[decide_eq_true hneg] at c0
 have HT:Hid (t=⟨(ds++[45]).reverse.toArray⟩):=by show _=_;rw[ae ht,zpz z hz ds (ae HDG),if_pos hneg]
 go_wp2_with (at_builtin;refine wpList_append_own _ rfl _ _ 185 rfl w.heap.size 5 i0 (.int .u8 0) 1 1 underlying185 hi hz0 hz1 hz2 rfl (by decide) _ _ _ rfl (hown.alloc _) ⟨wr.heap.size,0,none⟩ 1 1 [_] rfl rfl (cell_one_new _ _ _) (by intro u hu;simp at hu;subst hu;rfl) (by unfold maxLen;omega) (by omega) (by have:=hbut.size;simp;omega) ?_;intro v3 w3 hown3 hgrow3 hnil3;have hBW:But [] w w3:=(hbut.alloc _).grown hgrow3 (fun k hk=>(hown.lt k hk).1);obtain⟨g,cg,rfl,hg,hcg,hrow⟩:=zyb hown3;clear hown3 hgrow3 hnil3)
 go_loopw [8,9,10] (fun i j x wq=>∃ (k q:Nat) (cs:List Nat),i=.int .i64 k∧j=.int .i64 q∧k≤q+1∧Hid (k+q+1=ds.length+1∧sw ((ds++[45]).map UInt8.toNat) cs k∧Row .u8 wq g cs∧But [] w wq)) (fun i _ _ _=>ds.length+1-(intOf i).toNat)
 case atStart=>exact⟨0,ds.length+1-1,(ds++[45]).map UInt8.toNat,rfl,by congr 1 <;> omega,by omega,by omega,sw.start _,hrow,hBW⟩
 case round =>(
 obtain⟨k,q,cs,rfl,rfl,hkq,HJ⟩:=hrel
 rename World=>wq
 have hbl:((ds++[45]).map UInt8.toNat).length=ds.length+1:=by simp
 have hcl:cs.length=ds.length+1:=by rw[(ae HJ).2.1.len,hbl]
 have hsum:=(ae HJ).1
 by_cases hlt:k<q
 ·(
 obtain⟨ck,fk⟩:=(ae HJ).2.2.1 k (by omega)
 obtain⟨cq,fq⟩:=(ae HJ).2.2.1 q (by omega)
 have ST:=af ((ae HJ).2.1.step (by rw[hbl];omega))
 have hq:q=ds.length+1-1-k:=by omega
 rw[hbl,← hq] at ST
 have HC:=af hcl
 have HS:=af hsum
 have ne1:k≠q:=by omega
 have hk1:k<ds.length+1:=by omega
 have hq1:q<ds.length+1:=by omega
 clear hcl hbl hsum hq
 generalize hx:cs[k]?.getD 0=x at *
 generalize hy:cs[q]?.getD 0=y at *
 clear hx hy
 go_wp2
 refine⟨⟨k+1,q-1,(cs.set k y).set q x,by go_num,by rw[Int.ofNat_sub (by omega)];rfl,by omega,by have:=ae HS;omega,ae ST,((ae HJ).2.2.1.set k (by rw[ae HC];have:=ae HS;omega) y).set q (by rw[List.length_set,ae HC];have:=ae HS;omega) x,((ae HJ).2.2.2.setCell (.inr hg) _).setCell (.inr hg) _⟩,?_⟩
 have:=ae HS
 simp[intOf];omega)
 ·(
 have hfin:cs=((ds++[45]).map UInt8.toNat).reverse:=(ae HJ).2.1.fin (by rw[hbl];omega)
 have hcv:=run_convert_bytes_back (P:=prog) wq 185 9 5 ⟨g,0,none⟩ cg (ds++[45]).reverse underlying185 underlying5 underlying9 (fun j hj=>by
  have h1:=((ae HJ).2.2.1 j (by rw[hcl];simpa using hj)).1
  rw[hfin,← List.map_reverse,List.getElem?_map,List.getElem?_eq_getElem hj] at h1
  have e:(⟨g,0,none⟩:Addr).add j=⟨g,j,none⟩:=by by_cases h:j=0 <;> simp[Addr.add,h]
  rw[e];exact h1)
 rw[← ae HT] at hcv
 simp only[List.length_reverse,List.length_append,List.length_cons,List.length_nil,Nat.zero_add] at hcv
 have HB:=af (ae HJ).2.2.2
 clear hcl hbl hfin hsum HJ
 go_wp2
 go_ret
 exact⟨rfl,ae HB⟩)))
 ·(
 rw[decide_eq_false hneg] at c0
 have HT:Hid (t=⟨ds.reverse.toArray⟩):=by show _=_;rw[ae ht,zpz z hz ds (ae HDG),if_neg hneg]
 obtain⟨g,cg,rfl,hg,hcg,hrow⟩:=zcl hown hn0
 have hBW:=hbut
 go_wp2
 go_loopw [8,9,10] (fun i j x wq=>∃ (k q:Nat) (cs:List Nat),i=.int .i64 k∧j=.int .i64 q∧k≤q+1∧Hid (k+q+1=ds.length∧sw ((ds).map UInt8.toNat) cs k∧Row .u8 wq g cs∧But [] w wq)) (fun i _ _ _=>ds.length-(intOf i).toNat)
 case atStart=>exact⟨0,ds.length-1,(ds).map UInt8.toNat,rfl,by congr 1 <;> omega,by omega,by omega,sw.start _,hrow,hBW⟩
 case round =>(
 obtain⟨k,q,cs,rfl,rfl,hkq,HJ⟩:=hrel
 rename World=>wq
 have hbl:((ds).map UInt8.toNat).length=ds.length:=by simp
 have hcl:cs.length=ds.length:=by rw[(ae HJ).2.1.len,hbl]
 have hsum:=(ae HJ).1
 by_cases hlt:k<q
 ·(
 obtain⟨ck,fk⟩:=(ae HJ).2.2.1 k (by omega)
 obtain⟨cq,fq⟩:=(ae HJ).2.2.1 q (by omega)
 have ST:=af ((ae HJ).2.1.step (by rw[hbl];omega))
 have hq:q=ds.length-1-k:=by omega
 rw[hbl,← hq] at ST
 have HC:=af hcl
 have HS:=af hsum
 have ne1:k≠q:=by omega
 have hk1:k<ds.length:=by omega
 have hq1:q<ds.length:=by omega
 clear hcl hbl hsum hq
 generalize hx:cs[k]?.getD 0=x at *
 generalize hy:cs[q]?.getD 0=y at *
 clear hx hy
 go_wp2
 refine⟨⟨k+1,q-1,(cs.set k y).set q x,by go_num,by rw[Int.ofNat_sub (by omega)];rfl,by omega,by have:=ae HS;omega,ae ST,((ae HJ).2.2.1.set k (by rw[ae HC];have:=ae HS;omega) y).set q (by rw[List.length_set,ae HC];have:=ae HS;omega) x,((ae HJ).2.2.2.setCell (.inr hg) _).setCell (.inr hg) _⟩,?_⟩
 have:=ae HS
 simp[intOf];omega)
 ·(
 have hfin:cs=((ds).map UInt8.toNat).reverse:=(ae HJ).2.1.fin (by rw[hbl];omega)
 have hcv:=run_convert_bytes_back (P:=prog) wq 185 9 5 ⟨g,0,none⟩ cg (ds).reverse underlying185 underlying5 underlying9 (fun j hj=>by
  have h1:=((ae HJ).2.2.1 j (by rw[hcl];simpa using hj)).1
  rw[hfin,← List.map_reverse,List.getElem?_map,List.getElem?_eq_getElem hj] at h1
  have e:(⟨g,0,none⟩:Addr).add j=⟨g,j,none⟩:=by by_cases h:j=0 <;> simp[Addr.add,h]
  rw[e];exact h1)
 rw[← ae HT] at hcv
 rw[List.length_reverse] at hcv
 have HB:=af (ae HJ).2.2.2
 clear hcl hbl hfin hsum HJ
 go_wp2
 go_ret
 exact⟨rfl,ae HB⟩))))
 ·(
 have hla0:0<la:=by omega
 have HA:=af hla
 have HDG:=af hdig
 clear hla hdig hlz
 go_wp2_with fail
 refine (zjz _ gk 10 _ hsl (by omega) (by omega) (by rw[ae HA];exact hlen)).mono ?_
 rintro e w2 ⟨v2,rfl,hv2,hb2,hfr⟩
 have hr10:gk%10<10:=Nat.mod_lt _ (by omega)
 generalize hrr:gk%10=r at *
 have HR:=af hrr
 clear hrr
 have hown2:=uw hown hb2
 go_wp2_with (at_builtin;refine wpList_append_own _ rfl _ _ 185 rfl w.heap.size 5 i0 (.int .u8 0) 1 1 underlying185 hi hz0 hz1 hz2 rfl (by decide) _ _ _ rfl (hown2.alloc _) ⟨w2.heap.size,0,none⟩ 1 1 [_] rfl rfl (cell_one_new _ _ _) (by intro u hu;simp at hu;subst hu;rfl) (by unfold maxLen;omega) (by omega) (by have:=hbut.size;have:=hb2.size;simp;omega) ?_;intro v3 w3 hown3 hgrow3 hnil3)
 go_roundg (gk/10)
 case measure=>exact Nat.div_lt_self (by omega) (by omega)
 case rel =>(
 refine⟨ds++[UInt8.ofNat (48+r)],qao hv2 hgrow3 (fun k hk=>(hown.lt k hk).2) hfr,?_,((hbut.trans' hb2).alloc _).grown hgrow3 (fun k hk=>(hown.lt k hk).1),?_,?_⟩
 ·rw[List.length_append,List.map_append]
  rw[zhc r hr10] at hown3
  exact hown3
 ·rw[ae HDG,om (by omega),ae HR,List.append_assoc];rfl
 ·have h1:=ak (B:=4294967296) (by omega) gk _ (Nat.le_refl _)
  have h2:=aj (B:=4294967296) (by omega) (gk/10) _ (Nat.lt_of_le_of_lt (Nat.div_le_self _ _) h1)
  rw[ae HA] at h2
  omega))))
theorem zrs (b o:Nat) (z:Int) (w:World) (h:za w b o z) (hl:(wd 4294967296 z.natAbs).length<1073741824) (hd:(ko z.natAbs).length<1073741824) (t:ByteArray) (ht:Hid (t=⟨(zba z).toArray⟩)) :
   Calls prog 192 #[.pointer (some ⟨b,o,none⟩),.int .i64 10] w fun e w'=>e=.returned (.string t)∧But [] w w':=by(
 by_cases hz:z=0
 ·(
 subst hz
 obtain⟨b0,vb,b1,hvb⟩:=h
 simp only[Int.natAbs_zero,zh] at hvb
 obtain⟨a,cap,rfl,-,-⟩:=hvb
 have e:Hid (t=⟨#[48]⟩):=by
  show _=_
  rw[ae ht]
  have:zba 0=[48]:=by rw[zba,if_neg (by omega),Int.natAbs_zero,Lib.decDigits,dif_pos (by omega)];rfl
  rw[this]
 clear ht hl hd b0
 go_enter func192,ntmps192
 go_wp2
 go_ret
 exact⟨by rw[ae e];rfl,But.refl _ _⟩)
 ·exact zrr b o z w h hz hl hd t ht)
theorem zcc (b o:Nat) (z:Int) (w:World) (h:za w b o z) (hl:(wd 4294967296 z.natAbs).length<1073741824) (hd:(ko z.natAbs).length<1073741824) (t:ByteArray) (ht:Hid (t=⟨(zba z).toArray⟩)) :
   Calls prog 146 #[.pointer (some ⟨b,o,none⟩)] w fun e w'=>e=.returned (.string t)∧But [] w w':=by(
 go_enter func146,ntmps146
 go_wp2_with fail
 refine (zrs b o z _ h hl hd t ht).mono ?_
 rintro e w1 ⟨rfl,hb⟩
 go_wp2
 go_ret
 exact⟨rfl,hb⟩)
def zhi (p:Int) (n:Nat):ByteArray:=if n=1 then ⟨(zba p).toArray⟩ else ⟨(zba p).toArray⟩++⟨#[47]⟩++⟨(zba n).toArray⟩
theorem zgs (X n:Nat) (h:(wd 4294967296 X).length≤n):(ko X).length≤10*n:=by(
 refine zbl X _ ?_
 have h1:=ak (B:=4294967296) (by omega) X n h
 refine Nat.lt_of_lt_of_le h1 ?_
 rw[Nat.pow_mul]
 exact Nat.pow_le_pow_left (by omega) n)
theorem zsh (z:Int) (n:Nat) (h:(wd 4294967296 z.natAbs).length≤n):(zba z).length≤10*n+2:=by(
 have hd:(Lib.decDigits z.natAbs).length≤10*n+1:=by
  rcases Nat.eq_zero_or_pos z.natAbs with h0 | h0
  ·rw[h0,Lib.decDigits_length,Lib.nDigits_small (by omega)];omega
  ·rw[← zfz _ h0,List.length_reverse]
   have:=zgs z.natAbs n h
   omega
 unfold zba
 split
 ·rw[List.length_cons];omega
 ·omega)
theorem zlz (b:Nat) (p:Int) (n:Nat) (w:World) (h:zx w b p n) (hn0:0<n) (hp:(wd 4294967296 p.natAbs).length≤4000000) (hn:(wd 4294967296 n).length≤4000000) (t:ByteArray) (ht:Hid (t=⟨(zba p).toArray⟩++⟨#[47]⟩++⟨(zba n).toArray⟩)) :
   Calls prog 147 #[.pointer (some ⟨b,0,none⟩)] w fun e w'=>e=.returned (.string t)∧But [] w w':=by(
 obtain⟨tp,htp⟩:∃ tp:ByteArray,tp=⟨(zba p).toArray⟩:=⟨_,rfl⟩
 obtain⟨tn,htn⟩:∃ tn:ByteArray,tn=⟨(zba n).toArray⟩:=⟨_,rfl⟩
 have sp:tp.size≤40000002:=by rw[htp];exact zsh p 4000000 hp
 have sn:tn.size≤40000002:=by rw[htn];exact zsh n 4000000 (by rw[Int.natAbs_natCast];exact hn)
 rw[← htp,← htn] at ht
 have S1:=af (fun W (h:zx W b p n)=>zcc b 0 p W h.up (by omega) (by have:=zgs p.natAbs _ hp;omega) tp htp)
 have S2:=af (fun W (h:zx W b p n)=>zcc b 2 n W h.low (by rw[Int.natAbs_natCast];omega) (by rw[Int.natAbs_natCast];have:=zgs n _ hn;omega) tn htn)
 clear htp htn hp hn
 go_enter func147,ntmps147
 go_wp2_with fail
 refine (ae S1 _ h).mono ?_
 rintro e w1 ⟨rfl,B1⟩
 go_wp2_with fail
 refine (yc b p n _ (h.but B1) hn0).mono ?_
 rintro e w2 ⟨rfl,hw⟩
 obtain rfl:=hw.symm
 clear hw
 go_wp2_with fail
 refine (ae S2 _ (h.but B1)).mono ?_
 rintro e w2 ⟨rfl,B2⟩
 go_wp2
 go_ret
 exact⟨by rw[ae ht];rfl,B1.trans' B2⟩)
theorem zhj (b:Nat) (p:Int) (n:Nat) (w:World) (h:zx w b p n) (hn0:0<n) (hp:(wd 4294967296 p.natAbs).length≤4000000) (hn:(wd 4294967296 n).length≤4000000) (t:ByteArray) (ht:Hid (t=zhi p n)) :
   Calls prog 65 #[.pointer (some ⟨b,0,none⟩)] w fun e w'=>e=.returned (.string t)∧But [] w w':=by(
 have IS:=af (zma b p n w h hn0 (by omega))
 by_cases h1:n=1
 ·(
 have e1:Hid (t=⟨(zba p).toArray⟩):=by show _=_;rw[ae ht,zhi,if_pos h1]
 rw[decide_eq_true h1] at IS
 have S1:=af (fun W (h:zx W b p n)=>zcc b 0 p W h.up (by omega) (by have:=zgs p.natAbs _ hp;omega) t e1)
 clear ht hp hn h1
 go_enter func65,ntmps65
 go_wp2_with fail
 refine (ae IS).mono ?_
 rintro e w1 ⟨rfl,B1⟩
 go_wp2_with fail
 refine (ae S1 _ (h.but B1)).mono ?_
 rintro e w2 ⟨rfl,B2⟩
 go_wp2
 go_ret
 exact⟨rfl,B1.trans' B2⟩)
 ·(
 have e1:Hid (t=⟨(zba p).toArray⟩++⟨#[47]⟩++⟨(zba n).toArray⟩):=by show _=_;rw[ae ht,zhi,if_neg h1]
 rw[decide_eq_false h1] at IS
 have S1:=af (fun W (h:zx W b p n)=>zlz b p n W h hn0 hp hn t e1)
 clear ht hp hn h1
 go_enter func65,ntmps65
 go_wp2_with fail
 refine (ae IS).mono ?_
 rintro e w1 ⟨rfl,B1⟩
 go_wp2_with fail
 refine (ae S1 _ (h.but B1)).mono ?_
 rintro e w2 ⟨rfl,B2⟩
 go_wp2
 go_ret
 exact⟨rfl,B1.trans' B2⟩))
theorem zqp (b:Nat) (f:Rat) (w:World) (h:zi w b f) (hl:qw f 4000000) (t:ByteArray) (ht:Hid (t=zhi f.num f.den)) :
   Calls prog 12 #[.pointer (some ⟨b,0,none⟩)] w fun e w'=>e=.returned (.string t)∧But [] w w':=by(
 have RS:=af (zhj b f.num f.den w h (Nat.pos_of_ne_zero f.den_nz) hl.1 hl.2 t ht)
 clear h hl ht
 go_enter func12,ntmps12
 go_wp2_with fail
 refine (ae RS).mono ?_
 rintro e w1 ⟨rfl,hb⟩
 go_wp2
 go_ret
 exact⟨rfl,hb⟩)
end Go.Proofs.YtagmkkiagjmimaaGreatDoor
