/- Ten to the power of 608 and its squares, -/
import Derived.Laws.OwnMore
import Derived.Test.YthlnhheblhapgaaGreatDoorKMN36
import Derived.Test.YthlnhheblhapgaaGreatDoorKMPt
namespace Go.Proofs.YthlnhheblhapgaaGreatDoor
open Go.RowKit
set_option maxHeartbeats 4000000
set_option maxRecDepth 100000
def tenP (j:Nat):Nat:=10^(608*2^j)
theorem tenP_zero:tenP 0=10^608:=by unfold tenP;rw [Nat.pow_zero,Nat.mul_one]
theorem tenP_succ (j:Nat):tenP (j+1)=tenP j*tenP j:=by
 unfold tenP
 rw [← Nat.pow_add,Nat.pow_succ,← Nat.mul_two,Nat.mul_assoc]
theorem tenP_pos (j:Nat):0<tenP j:=Nat.pow_pos (by omega)
theorem tenP_gt (j:Nat):j<tenP j:=by
 unfold tenP
 have h1:j<2^j:=Nat.lt_two_pow_self
 have h2:608*2^j<10^(608*2^j):=Nat.lt_pow_self (by omega)
 omega
theorem tenP_below (X j n:Nat) (hl:(wd 18446744073709551616 X).length≤n) (h:tenP j≤X):1824*2^j<64*n:=by
 have h1:X < 18446744073709551616^n:=lt_of_wd_length (by omega) X _ hl
 have h2:(2:Nat)^(1824*2^j)≤tenP j:=by
  unfold tenP
  have e:(2:Nat)^(1824*2^j)=(2^3)^(608*2^j):=by rw [← Nat.pow_mul,← Nat.mul_assoc]
  rw [e]
  exact Nat.pow_le_pow_left (by omega) _
 have h3:(18446744073709551616:Nat)^n=2^(64*n):=by rw [Nat.pow_mul]
 rw [h3] at h1
 have h4:(2:Nat)^(1824*2^j)<2^(64*n):=Nat.lt_of_le_of_lt h2 (Nat.lt_of_le_of_lt h h1)
 exact (Nat.pow_lt_pow_iff_right (by omega:1<2)).1 h4
theorem info_nat:∃ i,Tryz.prog.info? 86 = some i∧i.zero=some (.slice none 0 0)∧i.size=1∧i.bytes=24:=by
 have h:(Tryz.prog.info? 86).map (fun i=>(i.zero,i.size,i.bytes))=some (some (.slice none 0 0),1,24):=by kernel_rfl
 obtain ⟨i,hi,he⟩:=Option.map_eq_some_iff.1 h
 simp only [Prod.mk.injEq] at he
 exact ⟨i,hi,he.1,he.2.1,he.2.2⟩
theorem keep_grown_of {w w':World} {base:Nat} {e:TypeId} {vo:Value} {n:Nat} {xs:List Value} (ho:w.ownsRow base e 1 vo n xs) (hn:vo=.slice none 0 0∨∃ u,xs[0]? = some u∧∀ m:Int,u≠.int .u64 m) (hg:w.grownBy w' vo.ownBlock):Keep64 w w':=by
 intro v ws hs
 cases hb:vo.ownBlock with
 | none=>rw [hb] at hg;exact hs.but_nil (grown_but_none hg)
 | some g =>
  rw [hb] at hg
  rcases hn with rfl | ⟨u,hu,hne⟩
  ·simp [Value.ownBlock] at hb
  ·have hc:=ho.cells hb 0 u hu
   rw [show (⟨g,0,none⟩:Addr).add 0=⟨g,0,none⟩ from by simp [Addr.add]] at hc
   exact hs.over (grown_but hg) hc hne
structure PowAt (w:World) (X:Nat) (us:List Value) (vo vp:Value) (wr:World):Prop where
 own:wr.ownsRow w.heap.size 86 1 vo us.length us
 all:∀ j u,us[j]? = some u→Sl .u64 wr u (wd 18446744073709551616 (tenP j))
 pow:Sl .u64 wr vp (wd 18446744073709551616 (tenP us.length))
 but:But [] w wr
 low:∀ j,j<us.length→tenP j≤X
 nil:vo=.slice none 0 0∨0<us.length
theorem PowAt.le {w:World} {X:Nat} {us:List Value} {vo vp:Value} {wr:World} (h:PowAt w X us vo vp wr):us.length≤X:=by
 rcases Nat.eq_zero_or_pos us.length with h0 | h0
 ·omega
 ·have h1:=h.low (us.length-1) (by omega)
  have h2:=tenP_gt (us.length-1)
  omega
theorem PowAt.first {w:World} {X:Nat} {us:List Value} {vo vp:Value} {wr:World} (h:PowAt w X us vo vp wr):vo=.slice none 0 0∨∃ u,us[0]? = some u∧∀ m:Int,u≠.int .u64 m:=by
 rcases h.nil with h0 | h0
 ·exact .inl h0
 ·refine .inr ⟨us[0],List.getElem?_eq_getElem h0,fun m e=>?_⟩
  have:=h.all 0 us[0] (List.getElem?_eq_getElem h0)
  rw [e] at this
  obtain ⟨a,c,h1,-⟩:=this
  simp at h1
theorem PowAt.drewN {w:World} {X:Nat} {us:List Value} {vo vp:Value} {wr:World} (h:PowAt w X us vo vp wr) (q:Nat):PowAt w X us vo vp (wr.drewN q) :=
 ⟨owns_but h.own ((But.refl [] _).drewN q),fun j u hj=>(h.all j u hj).but_nil ((But.refl [] _).drewN q),h.pow.but_nil ((But.refl [] _).drewN q),h.but.drewN q,h.low,h.nil⟩
theorem PowAt.plen {w:World} {X:Nat} {us:List Value} {vo vp:Value} {wr:World} (h:PowAt w X us vo vp wr):(wd 18446744073709551616 (tenP us.length)).length≤(wd 18446744073709551616 X).length+(wd 18446744073709551616 X).length+33:=by
 rcases Nat.eq_zero_or_pos us.length with h0 | h0
 ·rw [h0,tenP_zero]
  have:=wd_length_le (B:=18446744073709551616) (by omega) _ _ ten608
  omega
 ·obtain ⟨j,hj⟩:∃ j,us.length=j+1:=⟨us.length-1,by omega⟩
  have h1:=wd_len_mono (h.low j (by omega))
  have h2:=wd_len_mul (tenP j) (tenP j)
  rw [hj,tenP_succ]
  omega
theorem PowAt.more {w:World} {X:Nat} {us:List Value} {vo vp:Value} {wr:World} (h:PowAt w X us vo vp wr) (hle:tenP us.length≤X) (hul:us.length<35088) (W:World) (hW:W=wr.alloc (.cells #[vp] 86)) :
  ∃ v3 w3,(Builtin.append_ #[127,127] 127 #[vo,.slice (some ⟨wr.heap.size,0,none⟩) 1 1]).run Tryz.prog W=.ok v3 w3∧w3.ownsRow w.heap.size 86 1 v3 (us++[vp]).length (us++[vp])∧(∀ j u,(us++[vp])[j]? = some u→Sl .u64 w3 u (wd 18446744073709551616 (tenP j)))∧Sl .u64 w3 vp (wd 18446744073709551616 (tenP us.length))∧But [] w w3∧(∀ j,j<(us++[vp]).length→tenP j≤X)∧Keep64 wr w3:=by
 obtain ⟨i0,hi,hz0,hz1,hz2⟩:=info_nat
 subst hW
 have hp1:vp.oneCell'=true:=by
  obtain ⟨a,c,rfl,-⟩:=h.pow
  rfl
 have hc:(wr.alloc (.cells #[vp] 86)).cell? ⟨wr.heap.size,0,none⟩=some vp:=by simp
 have hbs:=h.but.size
 obtain ⟨v3,w3,hr,ho,hg,-⟩:=run_append_own (P:=Tryz.prog) (wr.alloc (.cells #[vp] 86)) w.heap.size 127 127 86 i0 (.slice none 0 0) 1 24 Tryz.underlying127 hi hz0 hz1 hz2 rfl (by decide) vo us.length us (h.own.alloc _) ⟨wr.heap.size,0,none⟩ 1 1 [vp] rfl (fun j u hj=>by
  cases j with
  | zero=>simp at hj;subst hj;rw [show (⟨wr.heap.size,0,none⟩:Addr).add 0=⟨wr.heap.size,0,none⟩ from by simp [Addr.add]];exact hc
  | succ j=>simp at hj) (fun u hu=>by simp at hu;subst hu;exact hp1) (by unfold maxLen;omega) (by omega) (by simp;omega)
 have hK:Keep64 wr w3:=(Keep64.of_but ((But.refl [] wr).alloc _)).trans (keep_grown_of (h.own.alloc _) h.first hg)
 refine ⟨v3,w3,hr,by rw [List.length_append];exact ho,fun j u hj=>?_,hK _ _ h.pow,(h.but.alloc _).grown hg (fun k hk=>(h.own.lt k hk).1),fun j hj=>?_,hK⟩
 ·rcases Nat.lt_or_ge j us.length with hl | hl
  ·rw [List.getElem?_append_left hl] at hj
   exact hK _ _ (h.all j u hj)
  ·have he:j=us.length:=by
    have:=(List.getElem?_eq_some_iff.1 hj).1
    simp at this
    omega
   subst he
   simp at hj
   subst hj
   exact hK _ _ h.pow
 ·simp at hj
  rcases Nat.lt_or_ge j us.length with hl | hl
  ·exact h.low j hl
  ·rw [show j=us.length from by omega];exact hle
theorem powersFor_any (v:Value) (X:Nat) (w:World) (hv:Sl .u64 w v (wd 18446744073709551616 X)) (hl:(wd 18446744073709551616 X).length≤1000000) :
  Calls Tryz.prog 71 #[v] w fun e w'=>∃ vo us,e=.returned vo∧w'.ownsRow w.heap.size 86 1 vo us.length us∧(∀ j u,us[j]? = some u→Sl .u64 w' u (wd 18446744073709551616 (tenP j)))∧But [] w w'∧(∀ j,j<us.length→tenP j≤X)∧X<tenP us.length:=by
 have h10:(wd 18446744073709551616 (10^608)).length≤33:=wd_length_le (by omega) _ _ ten608
 have h1:(wd 18446744073709551616 10).length≤1:=wd_length_le (by omega) _ _ (by omega)
 have PW:Hid (∀ (v1:Value) (W:World),Sl .u64 W v1 (wd 18446744073709551616 10)→Calls Tryz.prog 95 #[v1,.int .i64 608] W fun e w'=>∃ v',e=.returned v'∧Sl .u64 w' v' (wd 18446744073709551616 (tenP 0))∧But [] W w'):=fun v1 W h=>by
  rw [tenP_zero]
  exact natPow_any v1 10 608 W h (by omega) (by omega) (Nat.lt_of_le_of_lt (Nat.add_le_add h1 h10) (by omega))
 have HV:=hide hv
 have HLX:=hide hl
 clear hv h10 h1 hl
 obtain ⟨xa,xc,rfl,-,-⟩:=unhide HV
 generalize hnx:(wd 18446744073709551616 X).length=nx at *
 have NX:=hide hnx
 clear hnx
 go_enter Tryz.func71,Tryz.ntmps71
 go_wp2_with fail
 refine (natOf_any 10 (by omega) _).mono ?_
 rintro e w1 ⟨v1,rfl,hv1,hb1,-⟩
 have H1:=hide hv1
 have B1:=hide hb1
 clear hv1 hb1
 go_wp2_with fail
 refine (unhide PW v1 _ (unhide H1)).mono ?_
 rintro e w2 ⟨v2,rfl,hv2,hb2⟩
 have A0:Hid (∃ us,PowAt w X us (.slice none 0 0) v2 w2∧X+1+us.length=X+1 ):=⟨[],⟨World.ownsRow_nil _ _ _ _,fun j u h=>by simp at h,hv2,(unhide B1).trans' hb2,fun j h=>by simp at h,.inl rfl⟩,by simp⟩
 clear hv2 hb2 B1 H1 PW
 go_wp2_with fail
 go_loopg [3,4] (X+1) (fun k vo vp wr=>Hid (∃ us,PowAt w X us vo vp wr∧k+us.length=X+1))
 case atStart=>exact A0
 case round =>
  clear A0
  obtain ⟨us,hI,hk⟩:=unhide hrel
  clear hrel
  rename World=>wr
  obtain ⟨oa,oc,hoe⟩:=owns_shape hI.own
  have hpl:=hI.plen
  rw [unhide NX] at hpl
  have hlx:=unhide HLX
  have CM:=hide (natCmp_any _ _ (tenP us.length) X wr hI.pow ((unhide HV).but_nil hI.but) (by omega) (by rw [unhide NX];omega))
  obtain ⟨pa,pc,hpe,-,-⟩:=id hI.pow
  rcases Nat.lt_or_ge X (tenP us.length) with hlt | hge
  ·have hc:cmpN (tenP us.length) X=1:=by
    rcases cmpN_cases (tenP us.length) X with ⟨h,-⟩ | ⟨h,-⟩ | ⟨-,h⟩
    ·omega
    ·omega
    ·exact h
   rw [hc] at CM
   have FIN:=hide (And.intro hI (And.intro hlt hoe))
   subst hoe hpe
   clear hI hpl hlt hc hk
   generalize (wd 18446744073709551616 (tenP us.length)).length=np at *
   go_wp2_with fail
   refine (unhide CM).mono ?_
   rintro e w3 ⟨rfl,q,rfl⟩
   go_wp2
   go_ret
   exact ⟨_,us,rfl,(unhide FIN).1.own,(unhide FIN).1.all,(unhide FIN).1.but.drewN q,(unhide FIN).1.low,(unhide FIN).2.1⟩
  ·have hc:cmpN (tenP us.length) X≤0:=by
    rcases cmpN_cases (tenP us.length) X with ⟨-,h⟩ | ⟨-,h⟩ | ⟨h,-⟩
    ·omega
    ·omega
    ·omega
   generalize cmpN (tenP us.length) X=r at *
   have hr:decide (r≤0)=true:=by simp;omega
   have hL:us.length≤X:=hI.le
   have h35:=tenP_below X us.length nx (by rw [unhide NX];exact Nat.le_refl _) hge
   have hul:us.length<35088:=Nat.lt_trans Nat.lt_two_pow_self (by omega)
   have HI:=hide hI
   have HR:=hide (And.intro hk (And.intro hL hge))
   obtain ⟨np,hnp⟩:∃ np,np=(wd 18446744073709551616 (tenP us.length)).length:=⟨_,rfl⟩
   have NP:=hide hnp
   rw [← hnp] at hpe hpl
   have hnp0:0<np:=by
    rw [hnp,Nat.pos_iff_ne_zero];intro e;rw [wd_len_zero (by omega)] at e
    have:=tenP_pos us.length
    omega
   have MO:=hide (fun q=>(hI.drewN q).more hge hul _ rfl)
   have MU:=hide (fun W (h:Sl .u64 W u4 (wd 18446744073709551616 (tenP us.length)))=>natMul_any u4 u4 _ _ W h h (by rw [← hnp];omega))
   rw [← tenP_succ] at MU
   clear hI hk hL hge h35 hnp hc
   have SH:=hide hoe
   generalize us.length=L at hoe hul
   subst hoe hpe
   have hmul:wrap64 (2*(np:Int))=2*(np:Int):=by unfold wrap64;omega
   go_wp2_with fail
   refine (unhide CM).mono ?_
   rintro e w3 ⟨rfl,q,rfl⟩
   obtain ⟨v3,w3,hr3,ho3,ha3,hs3,hb3,hl3,hk3⟩:=unhide MO q
   have HR3:=hide hr3
   have AL:=hide (And.intro ho3 (And.intro ha3 (And.intro hs3 (And.intro hb3 hl3))))
   clear hr3 ho3 ha3 hs3 hb3 hl3 hk3 MO
   by_cases hbr:nx<2*np-1
   ·have hbi:(nx:Int)<2*(np:Int)-1:=by omega
    have FIN:Hid (X<tenP (us++[Value.slice pa np pc]).length):=by
     have h1:X < 18446744073709551616^nx:=lt_of_wd_length (by omega) X _ (Nat.le_of_eq (unhide NX))
     have h2:18446744073709551616^(np-1)≤tenP us.length:=by
      rcases Nat.lt_or_ge (tenP us.length) (18446744073709551616^(np-1)) with h | h
      ·have:=wd_length_le (B:=18446744073709551616) (by omega) _ _ h
       rw [← unhide NP] at this
       omega
      ·exact h
     show _<_
     rw [List.length_append,List.length_singleton,tenP_succ]
     refine Nat.lt_of_lt_of_le h1 (Nat.le_trans ?_ (Nat.mul_le_mul h2 h2))
     rw [← Nat.pow_add]
     exact Nat.pow_le_pow_right (by omega) (by omega)
    clear HI MU CM HR NP SH
    go_wp2_with (at_builtin;refine wpList_app rfl _ _ 127 127 rfl _ _ v3 w3 rfl rfl (unhide HR3) ?_)
    go_ret
    exact ⟨v3,_,rfl,(unhide AL).1,(unhide AL).2.1,(unhide AL).2.2.2.1,(unhide AL).2.2.2.2,unhide FIN⟩
   ·have hbi:¬ ((nx:Int)<2*(np:Int)-1):=by omega
    clear CM
    go_wp2_with (at_builtin;refine wpList_app rfl _ _ 127 127 rfl _ _ v3 w3 rfl rfl (unhide HR3) ?_)
    go_wp2_with fail
    refine (unhide MU _ (unhide AL).2.2.1).mono ?_
    rintro e w4 ⟨v4,rfl,hv4,hb4,-⟩
    have R:Hid (∃ us',PowAt w X us' v3 v4 w4∧gk-1+us'.length=X+1):=by
     refine ⟨_,⟨owns_but (unhide AL).1 hb4,fun j u hj=>((unhide AL).2.1 j u hj).but_nil hb4,?_,(unhide AL).2.2.2.1.trans' hb4,(unhide AL).2.2.2.2,.inr (by simp)⟩,?_⟩
     ·rw [List.length_append,List.length_singleton];exact hv4
     ·have:=unhide HR
      rw [List.length_append,List.length_singleton]
      omega
    have GK:Hid (0<gk):=by have:=unhide HR;show _<_;omega
    clear hv4 hb4 AL HI HR MU NP
    go_wp2
    go_roundg (gk-1)
    case measure=>have:=unhide GK;omega
    case rel=>exact unhide R
end Go.Proofs.YthlnhheblhapgaaGreatDoor

namespace Go.Proofs.YthlnhheblhapgaaGreatDoor
def sgR (f:Nat→Rat):Nat→Rat
 | 0=>0
 | k+1=>sgR f k+f k
theorem sgR_congr (f g:Nat→Rat):∀ n,(∀ k,k<n→f k=g k)→sgR f n=sgR g n
 | 0,_=>rfl
 | n+1,h=>by
  show sgR f n+f n=sgR g n+g n
  rw [sgR_congr f g n (fun k hk=>h k (by omega)),h n (by omega)]
theorem sgR_add (f g:Nat→Rat):∀ n,sgR (fun k=>f k+g k) n=sgR f n+sgR g n
 | 0=>by
  show (0:Rat)=0+0
  grind
 | n+1=>by
  show sgR _ n+(f n+g n)=sgR f n+f n+(sgR g n+g n)
  rw [sgR_add f g n];grind
theorem sgR_zero:∀ n,sgR (fun _=>0) n=0
 | 0=>rfl
 | n+1=>by
  show sgR (fun _=>0) n+0=0
  rw [sgR_zero n];grind
theorem sgR_one (i:Nat) (c:Nat→Rat):∀ n,sgR (fun t=>if t=i then c t else 0) n=if i<n then c i else 0
 | 0=>rfl
 | n+1=>by
  show sgR _ n+(if n=i then c n else 0)=_
  rw [sgR_one i c n]
  by_cases h:n=i
  ·subst h
   rw [if_neg (Nat.lt_irrefl _),if_pos rfl,if_pos (by omega)];grind
  ·rw [if_neg h]
   by_cases h2:i<n
   ·rw [if_pos h2,if_pos (by omega)];grind
   ·rw [if_neg h2,if_neg (by omega)];grind
theorem sgR_nonneg (f:Nat→Rat):∀ n,(∀ k,k<n→0≤f k)→0≤sgR f n
 | 0,_=>by
  show (0:Rat)≤0
  decide
 | n+1,h=>by
  have h1:=sgR_nonneg f n (fun k hk=>h k (by omega))
  have h2:=h n (by omega)
  show 0≤sgR f n+f n
  grind
theorem sgR_lin (f:Nat→Rat) (c:Rat):∀ n,sgR (fun k=>c*f k) n=c*sgR f n
 | 0=>by
  show (0:Rat)=c*0
  grind
 | n+1=>by
  show sgR (fun k=>c*f k) n+c*f n=c*(sgR f n+f n)
  rw [sgR_lin f c n];grind
end Go.Proofs.YthlnhheblhapgaaGreatDoor

namespace Go.Proofs.YthlnhheblhapgaaGreatDoor
def mvR (a:Nat→Rat) (M:Nat→Nat→Rat) (n:Nat):Nat→Rat:=fun k=>sgR (fun i=>a i*M i k) n
def ledR (Y:Nat→Nat→Nat→Rat) (n:Nat) (a:Nat→Rat) (o:Nat):Nat→Nat→Rat
 | 0=>a
 | j+1=>mvR (ledR Y n a o j) (Y (o+j)) n
def missR (Y:Nat→Nat→Nat→Rat) (n:Nat) (a:Nat→Rat) (k o:Nat):Nat→Nat→Rat
 | 0=>fun t=>if t=k then 0 else a t
 | j+1=>fun t=>if t=k then 0 else mvR (missR Y n a k o j) (Y (o+j)) n t
theorem mvR_congr {a b:Nat→Rat} {M:Nat→Nat→Rat} {n:Nat} (h:∀ i,i<n→a i=b i) (k:Nat):mvR a M n k=mvR b M n k :=
 sgR_congr _ _ n (fun i hi=>by rw [h i hi])
theorem ledR_congr {Y:Nat→Nat→Nat→Rat} {n:Nat} {a b:Nat→Rat} (h:∀ i,i<n→a i=b i) (o:Nat):∀ j k,k<n→ledR Y n a o j k=ledR Y n b o j k
 | 0,k,hk=>h k hk
 | j+1,k,_=>mvR_congr (fun i hi=>ledR_congr h o j i hi) k
theorem ledR_add (Y:Nat→Nat→Nat→Rat) (n:Nat) (a:Nat→Rat) (o i:Nat):∀ j k,ledR Y n (ledR Y n a o i) (o+i) j k=ledR Y n a o (i+j) k
 | 0,_=>rfl
 | j+1,k=>by
  show mvR (ledR Y n (ledR Y n a o i) (o+i) j) (Y (o+i+j)) n k=mvR (ledR Y n a o (i+j)) (Y (o+(i+j))) n k
  rw [Nat.add_assoc]
  exact mvR_congr (fun t _=>ledR_add Y n a o i j t) k
theorem sgR_mulr (f:Nat→Rat) (c:Rat):∀ n,sgR (fun k=>f k*c) n=sgR f n*c
 | 0=>by show (0:Rat)=0*c;grind
 | n+1=>by
  show sgR (fun k=>f k*c) n+f n*c=(sgR f n+f n)*c
  rw [sgR_mulr f c n];grind
theorem sgR_comm (F:Nat→Nat→Rat) (m:Nat):∀ n,sgR (fun k=>sgR (fun i=>F i k) m) n=sgR (fun i=>sgR (fun k=>F i k) n) m
 | 0=>(sgR_zero m).symm
 | n+1=>by
  show sgR (fun k=>sgR (fun i=>F i k) m) n+sgR (fun i=>F i n) m=sgR (fun i=>sgR (fun k=>F i k) n+F i n) m
  rw [sgR_comm F m n,sgR_add]
theorem sgR_le (f g:Nat→Rat):∀ n,(∀ k,k<n→f k≤g k)→sgR f n≤sgR g n
 | 0,_=>Rat.le_refl
 | n+1,h=>by
  show sgR f n+f n≤sgR g n+g n
  have h1:=sgR_le f g n (fun k hk=>h k (by omega))
  have h2:=h n (by omega)
  grind
def Stoch (M:Nat→Nat→Rat) (n:Nat):Prop:=∀ i,i<n→sgR (M i) n=1∧∀ k,k<n→0≤M i k
theorem mvR_sum {a:Nat→Rat} {M:Nat→Nat→Rat} {n:Nat} (h:Stoch M n):sgR (mvR a M n) n=sgR a n:=by
 unfold mvR
 rw [sgR_comm (fun i k=>a i*M i k) n n]
 refine sgR_congr _ _ n (fun i hi=>?_)
 rw [sgR_lin,(h i hi).1]
 grind
theorem mvR_nonneg {a:Nat→Rat} {M:Nat→Nat→Rat} {n:Nat} (h:Stoch M n) (ha:∀ i,i<n→0≤a i) (k:Nat) (hk:k<n):0≤mvR a M n k :=
 sgR_nonneg _ n (fun i hi=>Rat.mul_nonneg (ha i hi) ((h i hi).2 k hk))
theorem ledR_sum {Y:Nat→Nat→Nat→Rat} {n:Nat} {a:Nat→Rat} (o:Nat):∀ j,(∀ t,t<j→Stoch (Y (o+t)) n)→sgR (ledR Y n a o j) n=sgR a n
 | 0,_=>rfl
 | j+1,h=>(mvR_sum (h j (by omega))).trans (ledR_sum o j (fun t ht=>h t (by omega)))
theorem ledR_nonneg {Y:Nat→Nat→Nat→Rat} {n:Nat} {a:Nat→Rat} (o:Nat) (ha:∀ i,i<n→0≤a i):∀ j,(∀ t,t<j→Stoch (Y (o+t)) n)→∀ k,k<n→0≤ledR Y n a o j k
 | 0,_=>ha
 | j+1,h=>mvR_nonneg (h j (by omega)) (ledR_nonneg o ha j (fun t ht=>h t (by omega)))
theorem missR_at {Y:Nat→Nat→Nat→Rat} {n:Nat} {a:Nat→Rat} {k o:Nat}:∀ j,missR Y n a k o j k=0
 | 0=>if_pos rfl
 | _+1=>if_pos rfl
theorem missR_le {Y:Nat→Nat→Nat→Rat} {n:Nat} {a:Nat→Rat} {k o:Nat} (ha:∀ i,i<n→0≤a i):∀ j,(∀ t,t<j→Stoch (Y (o+t)) n)→∀ t,t<n→0≤missR Y n a k o j t∧missR Y n a k o j t≤ledR Y n a o j t
 | 0,_,t,ht=>by
  show 0≤(if t=k then 0 else a t)∧(if t=k then 0 else a t)≤a t
  have:=ha t ht
  by_cases e:t=k
  ·rw [if_pos e];exact ⟨Rat.le_refl,this⟩
  ·rw [if_neg e];exact ⟨this,Rat.le_refl⟩
 | j+1,h,t,ht=>by
  show 0≤(if t=k then 0 else mvR (missR Y n a k o j) (Y (o+j)) n t)∧(if t=k then 0 else mvR (missR Y n a k o j) (Y (o+j)) n t)≤mvR (ledR Y n a o j) (Y (o+j)) n t
  have ih:=missR_le (k:=k) (o:=o) ha j (fun t ht=>h t (by omega))
  have hs:=h j (by omega)
  have h1:=mvR_nonneg hs (fun i hi=>(ih i hi).1) t ht
  have h2:mvR (missR Y n a k o j) (Y (o+j)) n t≤mvR (ledR Y n a o j) (Y (o+j)) n t :=
   sgR_le _ _ n (fun i hi=>Rat.mul_le_mul_of_nonneg_right (ih i hi).2 ((hs i hi).2 t ht))
  by_cases e:t=k
  ·rw [if_pos e];exact ⟨Rat.le_refl,Rat.le_trans h1 h2⟩
  ·rw [if_neg e];exact ⟨h1,h2⟩
theorem hits_ge {Y:Nat→Nat→Nat→Rat} {n:Nat} {a:Nat→Rat} {k o j:Nat} (hk:k<n) (ha:∀ i,i<n→0≤a i) (h1:sgR a n=1) (h:∀ t,t<j→Stoch (Y (o+t)) n) :
  ledR Y n a o j k≤1-sgR (missR Y n a k o j) n∧1-sgR (missR Y n a k o j) n≤1:=by
 have hm:=missR_le (k:=k) (o:=o) ha j h
 have h0:0≤sgR (missR Y n a k o j) n:=sgR_nonneg _ n (fun t ht=>(hm t ht).1)
 have h2:sgR (fun t=>missR Y n a k o j t+(if t=k then ledR Y n a o j t else 0)) n≤sgR (ledR Y n a o j) n:=sgR_le _ _ n (fun t ht=>by
  by_cases e:t=k
  ·rw [if_pos e,e,missR_at];grind
  ·rw [if_neg e];have:=(hm t ht).2;grind)
 rw [sgR_add,sgR_one,if_pos hk,ledR_sum o j h,h1] at h2
 constructor <;> grind
end Go.Proofs.YthlnhheblhapgaaGreatDoor
