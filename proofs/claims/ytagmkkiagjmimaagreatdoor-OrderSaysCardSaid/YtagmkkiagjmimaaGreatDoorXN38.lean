/- Ten to the power of 608 and its squares, -/
import Derived.Laws.OwnMore
import Derived.Test.YtagmkkiagjmimaaGreatDoorXN12f
import Derived.Test.YtagmkkiagjmimaaGreatDoorXN36
namespace Go.Proofs.YtagmkkiagjmimaaGreatDoor
set_option linter.unusedVariables false
open Go.Proofs.Tryz
open Go.RowKit
set_option maxHeartbeats 4000000
set_option maxRecDepth 100000
def qi (j:Nat):Nat:=10^(608*2^j)
theorem zng:qi 0=10^608:=by unfold qi;rw[Nat.pow_zero,Nat.mul_one]
theorem zff (j:Nat):qi (j+1)=qi j*qi j:=by
 unfold qi
 rw[← Nat.pow_add,Nat.pow_succ,← Nat.mul_two,Nat.mul_assoc]
theorem zkn (j:Nat):0<qi j:=Nat.pow_pos (by omega)
theorem qdr (j:Nat):j<qi j:=by(
 unfold qi
 have h1:j<2^j:=Nat.lt_two_pow_self
 have h2:608*2^j<10^(608*2^j):=Nat.lt_pow_self (by omega)
 omega)
theorem zko (X j n:Nat) (hl:(wd 18446744073709551616 X).length≤n) (h:qi j≤X):1824*2^j<64*n:=by(
 have h1:X < 18446744073709551616^n:=am (by omega) X _ hl
 have h2:(2:Nat)^(1824*2^j)≤qi j:=by
  unfold qi
  have e:(2:Nat)^(1824*2^j)=(2^3)^(608*2^j):=by rw[← Nat.pow_mul,← Nat.mul_assoc]
  rw[e]
  exact Nat.pow_le_pow_left (by omega) _
 have h3:(18446744073709551616:Nat)^n=2^(64*n):=by rw[Nat.pow_mul]
 rw[h3] at h1
 have h4:(2:Nat)^(1824*2^j)<2^(64*n):=Nat.lt_of_le_of_lt h2 (Nat.lt_of_le_of_lt h h1)
 exact (Nat.pow_lt_pow_iff_right (by omega:1<2)).1 h4)
theorem qca:∃ i,prog.info? 103 = some i∧i.zero=some (.slice none 0 0)∧i.size=1∧i.bytes=24:=by(
 have h:(prog.info? 103).map (fun i=>(i.zero,i.size,i.bytes))=some (some (.slice none 0 0),1,24):=by kernel_rfl
 obtain⟨i,hi,he⟩:=Option.map_eq_some_iff.1 h
 simp only[Prod.mk.injEq] at he
 exact⟨i,hi,he.1,he.2.1,he.2.2⟩)
theorem zmy {w w':World} {base:Nat} {e:TypeId} {vo:Value} {n:Nat} {xs:List Value} (ho:w.ownsRow base e 1 vo n xs) (hn:vo=.slice none 0 0∨∃ u,xs[0]? = some u∧∀ m:Int,u≠.int .u64 m) (hg:w.grownBy w' vo.ownBlock):yt w w':=by(
 intro v ws hs
 cases hb:vo.ownBlock with
 | none=>rw[hb] at hg;exact hs.ah (si hg)
 | some g =>
  rw[hb] at hg
  rcases hn with rfl|⟨u,hu,hne⟩
  ·simp[Value.ownBlock] at hb
  ·have hc:=ho.cells hb 0 u hu
   rw[show (⟨g,0,none⟩:Addr).add 0=⟨g,0,none⟩ from by simp[Addr.add]] at hc
   exact hs.over (zfo hg) hc hne)
structure zco (w:World) (X:Nat) (us:List Value) (vo vp:Value) (wr:World):Prop where
 own:wr.ownsRow w.heap.size 103 1 vo us.length us
 all:∀ j u,us[j]? = some u→Sl .u64 wr u (wd 18446744073709551616 (qi j))
 pow:Sl .u64 wr vp (wd 18446744073709551616 (qi us.length))
 but:But [] w wr
 low:∀ j,j<us.length→qi j≤X
 nil:vo=.slice none 0 0∨0<us.length
theorem zco.le {w:World} {X:Nat} {us:List Value} {vo vp:Value} {wr:World} (h:zco w X us vo vp wr):us.length≤X:=by(
 rcases Nat.eq_zero_or_pos us.length with h0 | h0
 ·omega
 ·have h1:=h.low (us.length-1) (by omega)
  have h2:=qdr (us.length-1)
  omega)
theorem zco.first {w:World} {X:Nat} {us:List Value} {vo vp:Value} {wr:World} (h:zco w X us vo vp wr):vo=.slice none 0 0∨∃ u,us[0]? = some u∧∀ m:Int,u≠.int .u64 m:=by(
 rcases h.nil with h0 | h0
 ·exact .inl h0
 ·(
 refine .inr ⟨us[0],List.getElem?_eq_getElem h0,fun m e=>?_⟩
 have:=h.all 0 us[0] (List.getElem?_eq_getElem h0)
 rw[e] at this
 obtain⟨a,c,h1,-⟩:=this
 simp at h1))
theorem zco.drewN {w:World} {X:Nat} {us:List Value} {vo vp:Value} {wr:World} (h:zco w X us vo vp wr) (q:Nat):zco w X us vo vp (wr.drewN q) :=
 ⟨zah h.own ((But.refl [] _).drewN q),fun j u hj=>(h.all j u hj).ah ((But.refl [] _).drewN q),h.pow.ah ((But.refl [] _).drewN q),h.but.drewN q,h.low,h.nil⟩
theorem zco.qij {w:World} {X:Nat} {us:List Value} {vo vp:Value} {wr:World} (h:zco w X us vo vp wr):(wd 18446744073709551616 (qi us.length)).length≤(wd 18446744073709551616 X).length+(wd 18446744073709551616 X).length+33:=by(
 rcases Nat.eq_zero_or_pos us.length with h0 | h0
 ·rw[h0,zng]
  have:=aj (B:=18446744073709551616) (by omega) _ _ zzw
  omega
 ·(
 obtain⟨j,hj⟩:∃ j,us.length=j+1:=⟨us.length-1,by omega⟩
 have h1:=aw (h.low j (by omega))
 have h2:=jf (qi j) (qi j)
 rw[hj,zff]
 omega))
theorem zco.more {w:World} {X:Nat} {us:List Value} {vo vp:Value} {wr:World} (h:zco w X us vo vp wr) (hle:qi us.length≤X) (hul:us.length<35088) (W:World) (hW:W=wr.alloc (.cells #[vp] 103)) :
   ∃ v3 w3,(Builtin.append_ #[187,187] 187 #[vo,.slice (some ⟨wr.heap.size,0,none⟩) 1 1]).run prog W=.ok v3 w3∧w3.ownsRow w.heap.size 103 1 v3 (us++[vp]).length (us++[vp])∧(∀ j u,(us++[vp])[j]? = some u→Sl .u64 w3 u (wd 18446744073709551616 (qi j)))∧Sl .u64 w3 vp (wd 18446744073709551616 (qi us.length))∧But [] w w3∧(∀ j,j<(us++[vp]).length→qi j≤X)∧yt wr w3:=by(
 obtain⟨i0,hi,hz0,hz1,hz2⟩:=qca
 subst hW
 have hp1:vp.oneCell'=true:=by
  obtain⟨a,c,rfl,-⟩:=h.pow
  rfl
 have hc:(wr.alloc (.cells #[vp] 103)).cell? ⟨wr.heap.size,0,none⟩=some vp:=by simp
 have hbs:=h.but.size
 obtain⟨v3,w3,hr,ho,hg,-⟩:=run_append_own (P:=prog) (wr.alloc (.cells #[vp] 103)) w.heap.size 187 187 103 i0 (.slice none 0 0) 1 24 underlying187 hi hz0 hz1 hz2 rfl (by decide) vo us.length us (h.own.alloc _) ⟨wr.heap.size,0,none⟩ 1 1 [vp] rfl (fun j u hj=>by
  cases j with
  | zero=>simp at hj;subst hj;rw[show (⟨wr.heap.size,0,none⟩:Addr).add 0=⟨wr.heap.size,0,none⟩ from by simp[Addr.add]];exact hc
  | succ j=>simp at hj) (fun u hu=>by simp at hu;subst hu;exact hp1) (by unfold maxLen;omega) (by omega) (by simp;omega)
 have hK:yt wr w3:=(yt.zij ((But.refl [] wr).alloc _)).trans (zmy (h.own.alloc _) h.first hg)
 refine⟨v3,w3,hr,by rw[List.length_append];exact ho,fun j u hj=>?_,hK _ _ h.pow,(h.but.alloc _).grown hg (fun k hk=>(h.own.lt k hk).1),fun j hj=>?_,hK⟩
 ·(
 rcases Nat.lt_or_ge j us.length with hl | hl
 ·rw[List.getElem?_append_left hl] at hj
  exact hK _ _ (h.all j u hj)
 ·(
 have he:j=us.length:=by
  have:=(List.getElem?_eq_some_iff.1 hj).1
  simp at this
  omega
 subst he
 simp at hj
 subst hj
 exact hK _ _ h.pow))
 ·simp at hj
  rcases Nat.lt_or_ge j us.length with hl | hl
  ·exact h.low j hl
  ·rw[show j=us.length from by omega];exact hle)
theorem zms (v:Value) (X:Nat) (w:World) (hv:Sl .u64 w v (wd 18446744073709551616 X)) (hl:(wd 18446744073709551616 X).length≤1000000) :
   Calls prog 144 #[v] w fun e w'=>∃ vo us,e=.returned vo∧w'.ownsRow w.heap.size 103 1 vo us.length us∧(∀ j u,us[j]? = some u→Sl .u64 w' u (wd 18446744073709551616 (qi j)))∧But [] w w'∧(∀ j,j<us.length→qi j≤X)∧X<qi us.length:=by(
 have h10:(wd 18446744073709551616 (10^608)).length≤33:=aj (by omega) _ _ zzw
 have h1:(wd 18446744073709551616 10).length≤1:=aj (by omega) _ _ (by omega)
 have PW:Hid (∀ (v1:Value) (W:World),Sl .u64 W v1 (wd 18446744073709551616 10)→Calls prog 190 #[v1,.int .i64 608] W fun e w'=>∃ v',e=.returned v'∧Sl .u64 w' v' (wd 18446744073709551616 (qi 0))∧But [] W w'):=fun v1 W h=>by
  rw[zng]
  exact zuy v1 10 608 W h (by omega) (by omega) (Nat.lt_of_le_of_lt (Nat.add_le_add h1 h10) (by omega))
 have HV:=af hv
 have HLX:=af hl
 clear hv h10 h1 hl
 obtain⟨xa,xc,rfl,-,-⟩:=ae HV
 generalize hnx:(wd 18446744073709551616 X).length=nx at *
 have NX:=af hnx
 clear hnx
 go_enter func144,ntmps144
 go_wp2_with fail
 refine (oq 10 (by omega) _).mono ?_
 rintro e w1 ⟨v1,rfl,hv1,hb1,-⟩
 have H1:=af hv1
 have B1:=af hb1
 clear hv1 hb1
 go_wp2_with fail
 refine (ae PW v1 _ (ae H1)).mono ?_
 rintro e w2 ⟨v2,rfl,hv2,hb2⟩
 have A0:Hid (∃ us,zco w X us (.slice none 0 0) v2 w2∧X+1+us.length=X+1 ):=⟨[],⟨World.ownsRow_nil _ _ _ _,fun j u h=>by simp at h,hv2,(ae B1).trans' hb2,fun j h=>by simp at h,.inl rfl⟩,by simp⟩
 clear hv2 hb2 B1 H1 PW
 go_wp2_with fail
 go_loopg [3,4] (X+1) (fun k vo vp wr=>Hid (∃ us,zco w X us vo vp wr∧k+us.length=X+1))
 case atStart=>exact A0
 case round =>(
 clear A0
 obtain⟨us,hI,hk⟩:=ae hrel
 clear hrel
 rename World=>wr
 obtain⟨oa,oc,hoe⟩:=iw hI.own
 have hpl:=hI.qij
 rw[ae NX] at hpl
 have hlx:=ae HLX
 have CM:=af (kz _ _ (qi us.length) X wr hI.pow ((ae HV).ah hI.but) (by omega) (by rw[ae NX];omega))
 obtain⟨pa,pc,hpe,-,-⟩:=id hI.pow
 rcases Nat.lt_or_ge X (qi us.length) with hlt | hge
 ·(
 have hc:zz (qi us.length) X=1:=by
  rcases zbu (qi us.length) X with ⟨h,-⟩|⟨h,-⟩|⟨-,h⟩
  ·omega
  ·omega
  ·exact h
 rw[hc] at CM
 have FIN:=af (And.intro hI (And.intro hlt hoe))
 subst hoe hpe
 clear hI hpl hlt hc hk
 generalize (wd 18446744073709551616 (qi us.length)).length=np at *
 go_wp2_with fail
 refine (ae CM).mono ?_
 rintro e w3 ⟨rfl,q,rfl⟩
 go_wp2
 go_ret
 exact⟨_,us,rfl,(ae FIN).1.own,(ae FIN).1.all,(ae FIN).1.but.drewN q,(ae FIN).1.low,(ae FIN).2.1⟩)
 ·(
 have hc:zz (qi us.length) X≤0:=by
  rcases zbu (qi us.length) X with ⟨-,h⟩|⟨-,h⟩|⟨h,-⟩
  ·omega
  ·omega
  ·omega
 generalize zz (qi us.length) X=r at *
 have hr:decide (r≤0)=true:=by simp;omega
 have hL:us.length≤X:=hI.le
 have h35:=zko X us.length nx (by rw[ae NX];exact Nat.le_refl _) hge
 have hul:us.length<35088:=Nat.lt_trans Nat.lt_two_pow_self (by omega)
 have HI:=af hI
 have HR:=af (And.intro hk (And.intro hL hge))
 obtain⟨np,hnp⟩:∃ np,np=(wd 18446744073709551616 (qi us.length)).length:=⟨_,rfl⟩
 have NP:=af hnp
 rw[← hnp] at hpe hpl
 have hnp0:0<np:=by
  rw[hnp,Nat.pos_iff_ne_zero];intro e;rw[zo (by omega)] at e
  have:=zkn us.length
  omega
 have MO:=af (fun q=>(hI.drewN q).more hge hul _ rfl)
 have MU:=af (fun W (h:Sl .u64 W u4 (wd 18446744073709551616 (qi us.length)))=>xq u4 u4 _ _ W h h (by rw[← hnp];omega))
 rw[← zff] at MU
 clear hI hk hL hge h35 hnp hc
 have SH:=af hoe
 generalize us.length=L at hoe hul
 subst hoe hpe
 have hmul:wrap64 (2*(np:Int))=2*(np:Int):=by unfold wrap64;omega
 go_wp2_with fail
 refine (ae CM).mono ?_
 rintro e w3 ⟨rfl,q,rfl⟩
 obtain⟨v3,w3,hr3,ho3,ha3,hs3,hb3,hl3,hk3⟩:=ae MO q
 have HR3:=af hr3
 have AL:=af (And.intro ho3 (And.intro ha3 (And.intro hs3 (And.intro hb3 hl3))))
 clear hr3 ho3 ha3 hs3 hb3 hl3 hk3 MO
 by_cases hbr:nx<2*np-1
 ·(
 have hbi:(nx:Int)<2*(np:Int)-1:=by omega
 have FIN:Hid (X<qi (us++[Value.slice pa np pc]).length):=by
  have h1:X < 18446744073709551616^nx:=am (by omega) X _ (Nat.le_of_eq (ae NX))
  have h2:18446744073709551616^(np-1)≤qi us.length:=by
   rcases Nat.lt_or_ge (qi us.length) (18446744073709551616^(np-1)) with h | h
   ·have:=aj (B:=18446744073709551616) (by omega) _ _ h
    rw[← ae NP] at this
    omega
   ·exact h
  show _<_
  rw[List.length_append,List.length_singleton,zff]
  refine Nat.lt_of_lt_of_le h1 (Nat.le_trans ?_ (Nat.mul_le_mul h2 h2))
  rw[← Nat.pow_add]
  exact Nat.pow_le_pow_right (by omega) (by omega)
 clear HI MU CM HR NP SH
 go_wp2_with (at_builtin;refine zw rfl _ _ 187 187 rfl _ _ v3 w3 rfl rfl (ae HR3) ?_)
 go_ret
 exact⟨v3,_,rfl,(ae AL).1,(ae AL).2.1,(ae AL).2.2.2.1,(ae AL).2.2.2.2,ae FIN⟩)
 ·(
 have hbi:¬ ((nx:Int)<2*(np:Int)-1):=by omega
 clear CM
 go_wp2_with (at_builtin;refine zw rfl _ _ 187 187 rfl _ _ v3 w3 rfl rfl (ae HR3) ?_)
 go_wp2_with fail
 refine (ae MU _ (ae AL).2.2.1).mono ?_
 rintro e w4 ⟨v4,rfl,hv4,hb4,-⟩
 have R:Hid (∃ us',zco w X us' v3 v4 w4∧gk-1+us'.length=X+1):=by
  refine⟨_,⟨zah (ae AL).1 hb4,fun j u hj=>((ae AL).2.1 j u hj).ah hb4,?_,(ae AL).2.2.2.1.trans' hb4,(ae AL).2.2.2.2,.inr (by simp)⟩,?_⟩
  ·rw[List.length_append,List.length_singleton];exact hv4
  ·have:=ae HR
   rw[List.length_append,List.length_singleton]
   omega
 have GK:Hid (0<gk):=by have:=ae HR;show _<_;omega
 clear hv4 hb4 AL HI HR MU NP
 go_wp2
 go_roundg (gk-1)
 case measure=>have:=ae GK;omega
 case rel=>exact ae R))))
end Go.Proofs.YtagmkkiagjmimaaGreatDoor
