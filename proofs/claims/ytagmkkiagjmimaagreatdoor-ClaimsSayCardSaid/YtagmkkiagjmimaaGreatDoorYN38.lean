/- Ten to the power of 608 and its squares, -/
import Derived.Laws.OwnMore
import Derived.Test.YtagmkkiagjmimaaGreatDoorYN36
import Derived.Test.YtagmkkiagjmimaaGreatDoorYShelf
namespace Go.Proofs.YtagmkkiagjmimaaGreatDoor
set_option linter.unusedVariables false
open Go.Proofs.Tryz
open Go.RowKit
set_option maxHeartbeats 4000000
set_option maxRecDepth 100000
def qh (j:Nat):Nat:=10^(608*2^j)
theorem zoi:qh 0=10^608:=by unfold qh;rw[Nat.pow_zero,Nat.mul_one]
theorem zfu (j:Nat):qh (j+1)=qh j*qh j:=by
 unfold qh
 rw[← Nat.pow_add,Nat.pow_succ,← Nat.mul_two,Nat.mul_assoc]
theorem zlu (j:Nat):0<qh j:=Nat.pow_pos (by omega)
theorem qhf (j:Nat):j<qh j:=by(
 unfold qh
 have h1:j<2^j:=Nat.lt_two_pow_self
 have h2:608*2^j<10^(608*2^j):=Nat.lt_pow_self (by omega)
 omega)
theorem zlv (X j n:Nat) (hl:(wd 18446744073709551616 X).length≤n) (h:qh j≤X):1824*2^j<64*n:=by(
 have h1:X < 18446744073709551616^n:=ak (by omega) X _ hl
 have h2:(2:Nat)^(1824*2^j)≤qh j:=by
  unfold qh
  have e:(2:Nat)^(1824*2^j)=(2^3)^(608*2^j):=by rw[← Nat.pow_mul,← Nat.mul_assoc]
  rw[e]
  exact Nat.pow_le_pow_left (by omega) _
 have h3:(18446744073709551616:Nat)^n=2^(64*n):=by rw[Nat.pow_mul]
 rw[h3] at h1
 have h4:(2:Nat)^(1824*2^j)<2^(64*n):=Nat.lt_of_le_of_lt h2 (Nat.lt_of_le_of_lt h h1)
 exact (Nat.pow_lt_pow_iff_right (by omega:1<2)).1 h4)
theorem qfo:∃ i,prog.info? 103 = some i∧i.zero=some (.slice none 0 0)∧i.size=1∧i.bytes=24:=by(
 have h:(prog.info? 103).map (fun i=>(i.zero,i.size,i.bytes))=some (some (.slice none 0 0),1,24):=by kernel_rfl
 obtain⟨i,hi,he⟩:=Option.map_eq_some_iff.1 h
 simp only[Prod.mk.injEq] at he
 exact⟨i,hi,he.1,he.2.1,he.2.2⟩)
theorem znz {w w':World} {base:Nat} {e:TypeId} {vo:Value} {n:Nat} {xs:List Value} (ho:w.ownsRow base e 1 vo n xs) (hn:vo=.slice none 0 0∨∃ u,xs[0]? = some u∧∀ m:Int,u≠.int .u64 m) (hg:w.grownBy w' vo.ownBlock):yt w w':=by(
 intro v ws hs
 cases hb:vo.ownBlock with
 | none=>rw[hb] at hg;exact hs.ah (uy hg)
 | some g =>
  rw[hb] at hg
  rcases hn with rfl|⟨u,hu,hne⟩
  ·simp[Value.ownBlock] at hb
  ·have hc:=ho.cells hb 0 u hu
   rw[show (⟨g,0,none⟩:Addr).add 0=⟨g,0,none⟩ from by simp[Addr.add]] at hc
   exact hs.over (zge hg) hc hne)
structure zda (w:World) (X:Nat) (us:List Value) (vo vp:Value) (wr:World):Prop where
 own:wr.ownsRow w.heap.size 103 1 vo us.length us
 all:∀ j u,us[j]? = some u→Sl .u64 wr u (wd 18446744073709551616 (qh j))
 pow:Sl .u64 wr vp (wd 18446744073709551616 (qh us.length))
 but:But [] w wr
 low:∀ j,j<us.length→qh j≤X
 nil:vo=.slice none 0 0∨0<us.length
theorem zda.le {w:World} {X:Nat} {us:List Value} {vo vp:Value} {wr:World} (h:zda w X us vo vp wr):us.length≤X:=by(
 rcases Nat.eq_zero_or_pos us.length with h0 | h0
 ·omega
 ·have h1:=h.low (us.length-1) (by omega)
  have h2:=qhf (us.length-1)
  omega)
theorem zda.first {w:World} {X:Nat} {us:List Value} {vo vp:Value} {wr:World} (h:zda w X us vo vp wr):vo=.slice none 0 0∨∃ u,us[0]? = some u∧∀ m:Int,u≠.int .u64 m:=by(
 rcases h.nil with h0 | h0
 ·exact .inl h0
 ·(
 refine .inr ⟨us[0],List.getElem?_eq_getElem h0,fun m e=>?_⟩
 have:=h.all 0 us[0] (List.getElem?_eq_getElem h0)
 rw[e] at this
 obtain⟨a,c,h1,-⟩:=this
 simp at h1))
theorem zda.drewN {w:World} {X:Nat} {us:List Value} {vo vp:Value} {wr:World} (h:zda w X us vo vp wr) (q:Nat):zda w X us vo vp (wr.drewN q) :=
 ⟨zat h.own ((But.refl [] _).drewN q),fun j u hj=>(h.all j u hj).ah ((But.refl [] _).drewN q),h.pow.ah ((But.refl [] _).drewN q),h.but.drewN q,h.low,h.nil⟩
theorem zda.qmx {w:World} {X:Nat} {us:List Value} {vo vp:Value} {wr:World} (h:zda w X us vo vp wr):(wd 18446744073709551616 (qh us.length)).length≤(wd 18446744073709551616 X).length+(wd 18446744073709551616 X).length+33:=by(
 rcases Nat.eq_zero_or_pos us.length with h0 | h0
 ·rw[h0,zoi]
  have:=aj (B:=18446744073709551616) (by omega) _ _ qbw
  omega
 ·(
 obtain⟨j,hj⟩:∃ j,us.length=j+1:=⟨us.length-1,by omega⟩
 have h1:=av (h.low j (by omega))
 have h2:=jg (qh j) (qh j)
 rw[hj,zfu]
 omega))
theorem zda.more {w:World} {X:Nat} {us:List Value} {vo vp:Value} {wr:World} (h:zda w X us vo vp wr) (hle:qh us.length≤X) (hul:us.length<35088) (W:World) (hW:W=wr.alloc (.cells #[vp] 103)) :
   ∃ v3 w3,(Builtin.append_ #[187,187] 187 #[vo,.slice (some ⟨wr.heap.size,0,none⟩) 1 1]).run prog W=.ok v3 w3∧w3.ownsRow w.heap.size 103 1 v3 (us++[vp]).length (us++[vp])∧(∀ j u,(us++[vp])[j]? = some u→Sl .u64 w3 u (wd 18446744073709551616 (qh j)))∧Sl .u64 w3 vp (wd 18446744073709551616 (qh us.length))∧But [] w w3∧(∀ j,j<(us++[vp]).length→qh j≤X)∧yt wr w3:=by(
 obtain⟨i0,hi,hz0,hz1,hz2⟩:=qfo
 subst hW
 have hp1:vp.oneCell'=true:=by
  obtain⟨a,c,rfl,-⟩:=h.pow
  rfl
 have hc:(wr.alloc (.cells #[vp] 103)).cell? ⟨wr.heap.size,0,none⟩=some vp:=by simp
 have hbs:=h.but.size
 obtain⟨v3,w3,hr,ho,hg,-⟩:=run_append_own (P:=prog) (wr.alloc (.cells #[vp] 103)) w.heap.size 187 187 103 i0 (.slice none 0 0) 1 24 underlying187 hi hz0 hz1 hz2 rfl (by decide) vo us.length us (h.own.alloc _) ⟨wr.heap.size,0,none⟩ 1 1 [vp] rfl (fun j u hj=>by
  cases j with
  | zero=>simp at hj;subst hj;rw[show (⟨wr.heap.size,0,none⟩:Addr).add 0=⟨wr.heap.size,0,none⟩ from by simp[Addr.add]];exact hc
  | succ j=>simp at hj) (fun u hu=>by simp at hu;subst hu;exact hp1) (by unfold maxLen;omega) (by omega) (by simp;omega)
 have hK:yt wr w3:=(yt.zjc ((But.refl [] wr).alloc _)).trans (znz (h.own.alloc _) h.first hg)
 refine⟨v3,w3,hr,by rw[List.length_append];exact ho,fun j u hj=>?_,hK _ _ h.pow,(h.but.alloc _).grown hg (fun k hk=>(h.own.lt k hk).1),fun j hj=>?_,hK⟩
 ·(
 rcases Nat.lt_or_ge j us.length with hl | hl
 ·rw[List.getElem?_append_left hl] at hj
  exact hK _ _ (h.all j u hj)
 ·(
 have he:j=us.length:=by
  have:=(List.getElem?_eq_some_iff.1 hj).1
  simp at this
  omega
 subst he
 simp at hj
 subst hj
 exact hK _ _ h.pow))
 ·simp at hj
  rcases Nat.lt_or_ge j us.length with hl | hl
  ·exact h.low j hl
  ·rw[show j=us.length from by omega];exact hle)
theorem znv (v:Value) (X:Nat) (w:World) (hv:Sl .u64 w v (wd 18446744073709551616 X)) (hl:(wd 18446744073709551616 X).length≤1000000) :
   Calls prog 144 #[v] w fun e w'=>∃ vo us,e=.returned vo∧w'.ownsRow w.heap.size 103 1 vo us.length us∧(∀ j u,us[j]? = some u→Sl .u64 w' u (wd 18446744073709551616 (qh j)))∧But [] w w'∧(∀ j,j<us.length→qh j≤X)∧X<qh us.length:=by(
 have h10:(wd 18446744073709551616 (10^608)).length≤33:=aj (by omega) _ _ qbw
 have h1:(wd 18446744073709551616 10).length≤1:=aj (by omega) _ _ (by omega)
 have PW:Hid (∀ (v1:Value) (W:World),Sl .u64 W v1 (wd 18446744073709551616 10)→Calls prog 190 #[v1,.int .i64 608] W fun e w'=>∃ v',e=.returned v'∧Sl .u64 w' v' (wd 18446744073709551616 (qh 0))∧But [] W w'):=fun v1 W h=>by
  rw[zoi]
  exact zvs v1 10 608 W h (by omega) (by omega) (Nat.lt_of_le_of_lt (Nat.add_le_add h1 h10) (by omega))
 have HV:=af hv
 have HLX:=af hl
 clear hv h10 h1 hl
 obtain⟨xa,xc,rfl,-,-⟩:=ae HV
 generalize hnx:(wd 18446744073709551616 X).length=nx at *
 have NX:=af hnx
 clear hnx
 go_enter func144,ntmps144
 go_wp2_with fail
 refine (rf 10 (by omega) _).mono ?_
 rintro e w1 ⟨v1,rfl,hv1,hb1,-⟩
 have H1:=af hv1
 have B1:=af hb1
 clear hv1 hb1
 go_wp2_with fail
 refine (ae PW v1 _ (ae H1)).mono ?_
 rintro e w2 ⟨v2,rfl,hv2,hb2⟩
 have A0:Hid (∃ us,zda w X us (.slice none 0 0) v2 w2∧X+1+us.length=X+1 ):=⟨[],⟨World.ownsRow_nil _ _ _ _,fun j u h=>by simp at h,hv2,(ae B1).trans' hb2,fun j h=>by simp at h,.inl rfl⟩,by simp⟩
 clear hv2 hb2 B1 H1 PW
 go_wp2_with fail
 go_loopg [3,4] (X+1) (fun k vo vp wr=>Hid (∃ us,zda w X us vo vp wr∧k+us.length=X+1))
 case atStart=>exact A0
 case round =>(
 clear A0
 obtain⟨us,hI,hk⟩:=ae hrel
 clear hrel
 rename World=>wr
 obtain⟨oa,oc,hoe⟩:=lv hI.own
 have hpl:=hI.qmx
 rw[ae NX] at hpl
 have hlx:=ae HLX
 have CM:=af (ky _ _ (qh us.length) X wr hI.pow ((ae HV).ah hI.but) (by omega) (by rw[ae NX];omega))
 obtain⟨pa,pc,hpe,-,-⟩:=id hI.pow
 rcases Nat.lt_or_ge X (qh us.length) with hlt | hge
 ·(
 have hc:zy (qh us.length) X=1:=by
  rcases zce (qh us.length) X with ⟨h,-⟩|⟨h,-⟩|⟨-,h⟩
  ·omega
  ·omega
  ·exact h
 rw[hc] at CM
 have FIN:=af (And.intro hI (And.intro hlt hoe))
 subst hoe hpe
 clear hI hpl hlt hc hk
 generalize (wd 18446744073709551616 (qh us.length)).length=np at *
 go_wp2_with fail
 refine (ae CM).mono ?_
 rintro e w3 ⟨rfl,q,rfl⟩
 go_wp2
 go_ret
 exact⟨_,us,rfl,(ae FIN).1.own,(ae FIN).1.all,(ae FIN).1.but.drewN q,(ae FIN).1.low,(ae FIN).2.1⟩)
 ·(
 have hc:zy (qh us.length) X≤0:=by
  rcases zce (qh us.length) X with ⟨-,h⟩|⟨-,h⟩|⟨h,-⟩
  ·omega
  ·omega
  ·omega
 generalize zy (qh us.length) X=r at *
 have hr:decide (r≤0)=true:=by simp;omega
 have hL:us.length≤X:=hI.le
 have h35:=zlv X us.length nx (by rw[ae NX];exact Nat.le_refl _) hge
 have hul:us.length<35088:=Nat.lt_trans Nat.lt_two_pow_self (by omega)
 have HI:=af hI
 have HR:=af (And.intro hk (And.intro hL hge))
 obtain⟨np,hnp⟩:∃ np,np=(wd 18446744073709551616 (qh us.length)).length:=⟨_,rfl⟩
 have NP:=af hnp
 rw[← hnp] at hpe hpl
 have hnp0:0<np:=by
  rw[hnp,Nat.pos_iff_ne_zero];intro e;rw[zq (by omega)] at e
  have:=zlu us.length
  omega
 have MO:=af (fun q=>(hI.drewN q).more hge hul _ rfl)
 have MU:=af (fun W (h:Sl .u64 W u4 (wd 18446744073709551616 (qh us.length)))=>j5 u4 u4 _ _ W h h (by rw[← hnp];omega))
 rw[← zfu] at MU
 clear hI hk hL hge h35 hnp hc
 have SH:=af hoe
 generalize us.length=L at hoe hul
 subst hoe hpe
 have hmul:wrap64 (2*(np:Int))=2*(np:Int):=by unfold wrap64;omega
 go_wp2_with fail
 refine (ae CM).mono ?_
 rintro e w3 ⟨rfl,q,rfl⟩
 obtain⟨v3,w3,hr3,ho3,ha3,hs3,hb3,hl3,hk3⟩:=ae MO q
 have HR3:=af hr3
 have AL:=af (And.intro ho3 (And.intro ha3 (And.intro hs3 (And.intro hb3 hl3))))
 clear hr3 ho3 ha3 hs3 hb3 hl3 hk3 MO
 by_cases hbr:nx<2*np-1
 ·(
 have hbi:(nx:Int)<2*(np:Int)-1:=by omega
 have FIN:Hid (X<qh (us++[Value.slice pa np pc]).length):=by
  have h1:X < 18446744073709551616^nx:=ak (by omega) X _ (Nat.le_of_eq (ae NX))
  have h2:18446744073709551616^(np-1)≤qh us.length:=by
   rcases Nat.lt_or_ge (qh us.length) (18446744073709551616^(np-1)) with h | h
   ·have:=aj (B:=18446744073709551616) (by omega) _ _ h
    rw[← ae NP] at this
    omega
   ·exact h
  show _<_
  rw[List.length_append,List.length_singleton,zfu]
  refine Nat.lt_of_lt_of_le h1 (Nat.le_trans ?_ (Nat.mul_le_mul h2 h2))
  rw[← Nat.pow_add]
  exact Nat.pow_le_pow_right (by omega) (by omega)
 clear HI MU CM HR NP SH
 go_wp2_with (at_builtin;refine ja rfl _ _ 187 187 rfl _ _ v3 w3 rfl rfl (ae HR3) ?_)
 go_ret
 exact⟨v3,_,rfl,(ae AL).1,(ae AL).2.1,(ae AL).2.2.2.1,(ae AL).2.2.2.2,ae FIN⟩)
 ·(
 have hbi:¬ ((nx:Int)<2*(np:Int)-1):=by omega
 clear CM
 go_wp2_with (at_builtin;refine ja rfl _ _ 187 187 rfl _ _ v3 w3 rfl rfl (ae HR3) ?_)
 go_wp2_with fail
 refine (ae MU _ (ae AL).2.2.1).mono ?_
 rintro e w4 ⟨v4,rfl,hv4,hb4,-⟩
 have R:Hid (∃ us',zda w X us' v3 v4 w4∧gk-1+us'.length=X+1):=by
  refine⟨_,⟨zat (ae AL).1 hb4,fun j u hj=>((ae AL).2.1 j u hj).ah hb4,?_,(ae AL).2.2.2.1.trans' hb4,(ae AL).2.2.2.2,.inr (by simp)⟩,?_⟩
  ·rw[List.length_append,List.length_singleton];exact hv4
  ·have:=ae HR
   rw[List.length_append,List.length_singleton]
   omega
 have GK:Hid (0<gk):=by have:=ae HR;show _<_;omega
 clear hv4 hb4 AL HI HR MU NP
 go_wp2
 go_roundg (gk-1)
 case measure=>have:=ae GK;omega
 case rel=>exact ae R))))
def sgR (f:Nat→Rat):Nat→Rat
 | 0=>0
 | k+1=>sgR f k+f k
theorem zol (f g:Nat→Rat):∀ n,(∀ k,k<n→f k=g k)→sgR f n=sgR g n
 | 0,_=>rfl
 | n+1,h=>by
  show sgR f n+f n=sgR g n+g n
  rw[zol f g n (fun k hk=>h k (by omega)),h n (by omega)]
theorem zrz:∀ n,sgR (fun _=>0) n=0
 | 0=>rfl
 | n+1=>by
  show sgR (fun _=>0) n+0=0
  rw[zrz n];grind
def vw (f:Nat→Rat) (u:Nat→Nat):Nat→Nat→Rat
 | 0=>fun _=>0
 | i+1=>fun t=>if t=u i then vw f u i (u i)+f i else vw f u i t
theorem zkr (f:Nat→Rat) (u:Nat→Nat):∀ i,(∀ j,j<i→0≤f j)→∀ t,0≤vw f u i t
 | 0,_,_=>by
  show (0:Rat)≤0
  decide
 | i+1,h,t=>by
  have ih:=zkr f u i (fun j hj=>h j (by omega))
  have h1:=h i (by omega)
  show 0≤(if t=u i then vw f u i (u i)+f i else vw f u i t)
  split
  ·have:=ih (u i)
   grind
  ·exact ih t
def zdr (f:Nat→Rat) (q:Rat × Rat) (t:Nat):Rat × Rat :=
 (q.1-(if f t≤q.1 then f t else q.1),q.2+(if f t≤q.1 then f t else q.1)*((t:Int):Rat))
def wsf (f:Nat→Rat) (part:Rat) (l:List Nat):Rat × Rat:=l.foldl (zdr f) (part,0)
theorem zgx (f:Nat→Rat) (part:Rat) (l:List Nat) (t:Nat):wsf f part (l++[t])=zdr f (wsf f part l) t:=by
 unfold wsf
 rw[List.foldl_append];rfl
def dnL (n:Nat):Nat→List Nat
 | 0=>[]
 | d+1=>dnL n d++[n-(d+1)]
def upS (f:Nat→Rat) (n:Nat):Nat→Rat
 | 0=>0
 | d+1=>upS f n d+f (n-(d+1))
theorem zuw (f:Nat→Rat) (n:Nat):∀ d,d≤n→upS f n d+sgR f (n-d)=sgR f n
 | 0,_=>by
  show 0+sgR f n=sgR f n
  grind
 | d+1,h=>by
  have ih:=zuw f n d (by omega)
  have e:n-d=(n-(d+1))+1:=by omega
  rw[e] at ih
  have e2:sgR f (n-(d+1)+1)=sgR f (n-(d+1))+f (n-(d+1)):=rfl
  rw[e2] at ih
  show upS f n d+f (n-(d+1))+sgR f (n-(d+1))=sgR f n
  grind
def upM (f:Nat→Rat) (n:Nat):Nat→Rat
 | 0=>0
 | d+1=>upM f n d+f (n-(d+1))*(((n-(d+1):Nat):Int):Rat)
theorem zve (f:Nat→Rat) (a:Nat):∀ d,(∀ k,a≤k→k<a+d→0≤f k)→sgR f a≤sgR f (a+d)
 | 0,_=>Rat.le_refl
 | d+1,h=>by
  have h1:=zve f a d (fun k h1 h2=>h k h1 (by omega))
  have h2:=h (a+d) (by omega) (by omega)
  show sgR f a≤sgR f (a+d)+f (a+d)
  grind
theorem zrq (f g:Nat→Rat) (n q:Nat) (hg:∀ k,q<k→g k=f k*(((k:Int):Rat)-((q:Int):Rat))):∀ d,d+q+1≤n→upM f n d-((q:Int):Rat)*upS f n d+sgR g (n-d)=sgR g n
 | 0,_=>by
  show (0:Rat)-((q:Int):Rat)*0+sgR g n=sgR g n
  grind
 | d+1,h=>by
  have ih:=zrq f g n q hg d (by omega)
  have e:n-d=(n-(d+1))+1:=by omega
  rw[e] at ih
  have e1:sgR g (n-(d+1)+1)=sgR g (n-(d+1))+g (n-(d+1)):=rfl
  rw[e1,hg (n-(d+1)) (by omega)] at ih
  show upM f n d+f (n-(d+1))*(((n-(d+1):Nat):Int):Rat)-((q:Int):Rat)*(upS f n d+f (n-(d+1)))+sgR g (n-(d+1))=sgR g n
  grind
theorem zok (g:Nat→Rat):∀ q,(∀ k,k≤q→g k=0)→sgR g (q+1)=0
 | 0,h=>by
  show (0:Rat)+g 0=0
  rw[h 0 (by omega)];grind
 | q+1,h=>by
  show sgR g (q+1)+g (q+1)=0
  rw[zok g q (fun k hk=>h k (by omega)),h (q+1) (by omega)];grind
theorem zmx (n d:Nat):dnL n (d+1)=dnL n d++[n-(d+1)]:=rfl
theorem qbp (f:Nat→Rat) (n q:Nat) (ch:Rat) (hq:q<n) (hf:∀ k,k<n→0≤f k) (h1:sgR f n=1) (h3:ch<sgR f (q+1)):∀ d,d+q+1≤n→wsf f (1-ch) (dnL n d)=(1-ch-upS f n d,upM f n d)
 | 0,_=>by
  show (1-ch,(0:Rat))=(1-ch-0,0)
  rw[show 1-ch-0=1-ch by grind]
 | d+1,h=>by
  have ih:=qbp f n q ch hq hf h1 h3 d (by omega)
  have hu:=zuw f n (d+1) (by omega)
  have hup:=zve f (q+1) (n-(d+1)-(q+1)) (fun k _ h2=>hf k (by omega))
  rw[show q+1+(n-(d+1)-(q+1))=n-(d+1) by omega] at hup
  have e3:upS f n (d+1)=upS f n d+f (n-(d+1)):=rfl
  rw[e3] at hu
  rw[zmx,zgx,ih]
  unfold zdr
  have hle:f (n-(d+1))≤1-ch-upS f n d:=by grind
  show (1-ch-upS f n d-(if f (n-(d+1))≤1-ch-upS f n d then f (n-(d+1)) else 1-ch-upS f n d),upM f n d+(if f (n-(d+1))≤1-ch-upS f n d then f (n-(d+1)) else 1-ch-upS f n d)*(((n-(d+1):Nat):Int):Rat))=_
  rw[if_pos hle,e3]
  refine Prod.ext ?_ rfl
  show 1-ch-upS f n d-f (n-(d+1))=1-ch-(upS f n d+f (n-(d+1)))
  grind
theorem zxe (f:Nat→Rat) (n:Nat) (part x:Rat) (d:Nat) (h0:wsf f part (dnL n d)=(0,x)) (hf:∀ k,k<n→0≤f k):∀ e,d+e≤n→wsf f part (dnL n (d+e))=(0,x)
 | 0,_=>h0
 | e+1,h=>by
  have ih:=zxe f n part x d h0 hf e (by omega)
  rw[show d+(e+1)=(d+e)+1 by omega,zmx,zgx,ih]
  unfold zdr
  have h2:=hf (n-(d+e+1)) (by omega)
  have ht:(if f (n-(d+e+1))≤(0:Rat) then f (n-(d+e+1)) else 0)=0:=by
   split
   ·grind
   ·rfl
  show ((0:Rat)-(if f (n-(d+e+1))≤(0:Rat) then f (n-(d+e+1)) else 0),x+(if f (n-(d+e+1))≤(0:Rat) then f (n-(d+e+1)) else 0)*(((n-(d+e+1):Nat):Int):Rat))=_
  rw[ht]
  refine Prod.ext ?_ ?_
  ·show (0:Rat)-0=0
   grind
  ·show x+0*_=x
   grind
theorem qbo (f g:Nat→Rat) (n q:Nat) (ch:Rat) (hq:q<n) (hf:∀ k,k<n→0≤f k) (h1:sgR f n=1) (h2:sgR f q≤ch) (h3:ch<sgR f (q+1)) (hg:∀ k,q<k→g k=f k*(((k:Int):Rat)-((q:Int):Rat))) (hg0:∀ k,k≤q→g k=0) :
   (wsf f (1-ch) (dnL n n)).2=((q:Int):Rat)*(1-ch)+sgR g n:=by(
 have ht:=qbp f n q ch hq hf h1 h3 (n-(q+1)) (by omega)
 have hu:=zuw f n (n-(q+1)) (by omega)
 have hm:=zrq f g n q hg (n-(q+1)) (by omega)
 rw[show n-(n-(q+1))=q+1 by omega] at hu hm
 rw[zok g q hg0] at hm
 have e1:sgR f (q+1)=sgR f q+f q:=rfl
 have hd:wsf f (1-ch) (dnL n (n-(q+1)+1))=(0,upM f n (n-(q+1))+(1-ch-upS f n (n-(q+1)))*((q:Int):Rat)):=by
  rw[zmx,zgx,ht,show n-(n-(q+1)+1)=q by omega]
  unfold zdr
  have ht:(if f q≤1-ch-upS f n (n-(q+1)) then f q else 1-ch-upS f n (n-(q+1)))=1-ch-upS f n (n-(q+1)):=by
   split
   ·grind
   ·rfl
  show (1-ch-upS f n (n-(q+1))-(if f q≤1-ch-upS f n (n-(q+1)) then f q else 1-ch-upS f n (n-(q+1))),upM f n (n-(q+1))+(if f q≤1-ch-upS f n (n-(q+1)) then f q else 1-ch-upS f n (n-(q+1)))*((q:Int):Rat))=_
  rw[ht]
  refine Prod.ext ?_ rfl
  show 1-ch-upS f n (n-(q+1))-(1-ch-upS f n (n-(q+1)))=0
  grind
 have he:=zxe f n (1-ch) _ _ hd hf q (by omega)
 rw[show n-(q+1)+1+q=n by omega] at he
 rw[he]
 show upM f n (n-(q+1))+(1-ch-upS f n (n-(q+1)))*((q:Int):Rat)=_
 grind)
theorem zoy (f:Nat→Rat) (u:Nat→Nat) (m:Nat):∀ d,(∀ k,m≤k→f k=0)→vw f u (m+d)=vw f u m
 | 0,_=>rfl
 | d+1,h=>by
  funext t
  show (if t=u (m+d) then vw f u (m+d) (u (m+d))+f (m+d) else vw f u (m+d) t)=_
  rw[zoy f u m d h,h (m+d) (by omega)]
  split
  ·rename_i e
   rw[e];grind
  ·rfl
theorem zox (f:Nat→Rat) (u:Nat→Nat) (t:Nat):∀ m,(∀ j,j<m→u j≠t)→vw f u m t=0
 | 0,_=>rfl
 | m+1,h=>by
  show (if t=u m then vw f u m (u m)+f m else vw f u m t)=0
  rw[if_neg (fun e=>h m (by omega) e.symm),zox f u t m (fun j hj=>h j (by omega))]
theorem qaq (f:Nat→Rat) (u:Nat→Nat) (m:Nat) (hf:∀ j,j≤m→0≤f j) (hm:0<f m):0<vw f u (m+1) (u m):=by(
 have h1:=zkr f u m (fun j hj=>hf j (by omega)) (u m)
 show 0<(if u m=u m then vw f u m (u m)+f m else vw f u m (u m))
 rw[if_pos rfl]
 grind)
end Go.Proofs.YtagmkkiagjmimaaGreatDoor
