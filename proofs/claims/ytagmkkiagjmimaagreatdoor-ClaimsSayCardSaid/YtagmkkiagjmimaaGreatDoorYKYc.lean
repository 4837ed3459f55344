/- Rows of the reference without the nought -/
import Derived.Test.YtagmkkiagjmimaaGreatDoorYK8
import Derived.Test.YtagmkkiagjmimaaGreatDoorYRLb
namespace Go.Proofs.YtagmkkiagjmimaaGreatDoor
open Go.Proofs.Tryz
open Go.RowKit
set_option maxHeartbeats 16000000
set_option maxRecDepth 100000
set_option linter.unusedVariables false
def qfh:Value→Nat
 | .slice _ n _=>n
 | _=>0
theorem zn.vals {w:World} {b off n cap:Nat} {fs:List Rat} (h:zn w (.slice (some ⟨b,off,none⟩) n cap) fs):∃ us:List Value,us.length=n∧(∀ i u,us[i]? = some u→w.cell? ⟨b,off+i,none⟩=some u∧u.oneCell'=true)∧∀ (i:Nat) (f:Rat),fs[i]? = some f→∃ u,us[i]? = some u∧zij w u f:=by(
 refine⟨(List.range n).map (fun i=>(w.cell? ⟨b,off+i,none⟩).getD undef),by simp,fun i u hu=>?_,fun i f hi=>?_⟩
 ·(
 have hin:i<n:=by
  have:=(List.getElem?_eq_some_iff.1 hu).1
  simpa using this
 rw[List.getElem?_map,List.getElem?_range hin,Option.map_some] at hu
 obtain⟨-,b2,o2,g,f,e,hc,-⟩:=h.at i hin
 simp only[Option.some.injEq,Addr.mk.injEq] at e
 obtain⟨rfl,rfl,-⟩:=e
 rw[hc] at hu ⊢
 simp only[Option.getD_some,Option.some.injEq] at hu
 subst hu
 exact⟨rfl,rfl⟩)
 ·(
 obtain⟨a',cap',e,h1,h2⟩:=h
 simp only[Value.slice.injEq] at e
 obtain⟨rfl,rfl,rfl⟩:=e
 obtain⟨b2,o2,u,e2,hc,hp⟩:=h2 i f hi
 simp only[Option.some.injEq,Addr.mk.injEq] at e2
 obtain⟨rfl,rfl,-⟩:=e2
 have hin:=(List.getElem?_eq_some_iff.1 hi).1
 refine⟨u,?_,hp⟩
 rw[List.getElem?_map,List.getElem?_range hin,Option.map_some,hc]
 rfl))
theorem qbb (w V:World) (g b off n cap:Nat) (fs:List Rat) (hr:zn w (.slice (some ⟨b,off,none⟩) n cap) fs) (hV:But [] w V) (hown:V.ownsRow w.heap.size 37 1 (.slice (some ⟨g,0,none⟩) 0 0) 0 []) (h0:0<n) (hn:n≤1000) :
   ∃ g' c' w',(Builtin.append_ #[42,42] 42 #[.slice (some ⟨g,0,none⟩) 0 0,.slice (some ⟨b,off,none⟩) n cap]).run prog V=.ok (.slice (some ⟨g',0,none⟩) n c') w'∧n≤c'∧c'≤maxLen∧zn w' (.slice (some ⟨g',0,none⟩) n c') fs∧But [] w w':=by(
 obtain⟨i0,hi,hz0,hz1,hz2⟩:=zmt
 obtain⟨us,hl,hus,hval⟩:=hr.vals
 have hN:n=fs.length:=(hr.at 0 h0).1
 obtain⟨v',w',hrun,ho,hg,-⟩:=run_append_own (P:=prog) V w.heap.size 42 42 37 i0 _ 1 8 underlying42 hi hz0 hz1 hz2 rfl (by decide) (.slice (some ⟨g,0,none⟩) 0 0) 0 [] hown ⟨b,off,none⟩ n cap us (by rw[hl,Nat.mul_one]) (fun j u hj=>by
   have e:(⟨b,off,none⟩:Addr).add j=⟨b,off+j,none⟩:=by
    by_cases hz:j=0
    ·simp[Addr.add,hz]
    ·simp[Addr.add,hz]
   rw[e]
   exact hV.ag (hus j u hj).1 (by simp)) (fun u hu=>by
   obtain⟨j,hj,rfl⟩:=List.mem_iff_getElem.1 hu
   exact (hus j _ (List.getElem?_eq_getElem hj)).2) (by unfold maxLen;omega) (by omega) hV.size
 have hB:But [] w w':=zaa hV hown (Nat.le_refl _) hg
 rw[Nat.zero_add,List.nil_append] at ho
 rcases ho.2 with ⟨-,e⟩|⟨g',c',cur,e,h1,h2,h3,h4,-⟩
 ·omega
 ·(
 subst e
 refine⟨g',c',w',hrun,h3,h4,⟨_,c',by rw[hN],by omega,fun i f hi=>?_⟩,hB⟩
 obtain⟨u,hu,g2,rfl,hp⟩:=hval i f hi
 have hc:=ho.cells (g:=g') rfl i _ hu
 have ea:(⟨g',0,none⟩:Addr).add i=⟨g',0+i,none⟩:=by
  by_cases hz:i=0
  ·simp[Addr.add,hz]
  ·simp[Addr.add,hz]
 rw[ea] at hc
 exact⟨g',0,_,rfl,hc,g2,rfl,hp.but hB⟩))
theorem zsi (v:Value) (fs:List Rat) (F:Nat→Rat) (m:Nat) (w:World) (hr:zn w v fs) (hF:∀ i,i<fs.length→fs[i]? = some (F i)) (hn:fs.length≤1000) (lf:∀ i,i<fs.length→zu (F i) 1000000) (hm:m<fs.length) (h1:m=0∨(F m).num≠0) (h2:∀ j,m<j→j<fs.length→(F j).num=0) :
   Calls prog 123 #[v] w fun e w'=>∃ v',e=.returned v'∧zn w' v' (fs.take (m+1))∧But [] w w':=by(
 obtain⟨a,cap0,rfl,hcap0⟩:=hr.open
 obtain⟨b,off,ha⟩:∃ b off,a=some ⟨b,off,none⟩:=by
  obtain⟨-,b,off,g,f,h3,-⟩:=hr.at 0 (by omega)
  exact⟨b,off,h3⟩
 subst ha
 have CP:=af (fun V g (hV:But [] w V) ho=>qbb w V g b off fs.length cap0 fs hr hV ho (by omega) hn)
 have TK:=af (fun V g c (h:zn V (.slice (some ⟨g,0,none⟩) fs.length c) fs)=>h.take (m+1) hm)
 have SG:=af (fun (k:Nat) (hk:k<fs.length) W x (hx:ze W x (F k))=>zmh x _ W hx (F k).num.sign rfl ((lf k hk).mono (by omega)))
 have GE:=af (fun V g c i (h:zn V (.slice (some ⟨g,0,none⟩) fs.length c) fs) (hi:i<fs.length)=>show ∃ x,V.cell? ⟨g,i,none⟩=some (.pointer (some ⟨x,0,none⟩))∧ze V x (F i) by
  obtain⟨-,b,off,x,f,h3,h4,h5,h6⟩:=h.at i hi
  simp only[Option.some.injEq,Addr.mk.injEq] at h3
  obtain⟨rfl,rfl,-⟩:=h3
  rw[hF i hi] at h5
  obtain rfl:=Option.some.inj h5
  rw[Nat.zero_add] at h4
  exact⟨x,h4,h6⟩)
 have HZ:=af h2
 have HO:=af h1
 clear hr hF lf h1 h2
 obtain⟨gs,hgs⟩:∃ gs,gs=fs.take (m+1):=⟨_,rfl⟩
 rw[← hgs] at TK
 rw[← hgs]
 clear hgs
 obtain⟨n,hnn⟩:∃ n,n=fs.length:=⟨_,rfl⟩
 rw[← hnn] at hn hm hcap0 CP TK SG GE HZ
 rw[← hnn]
 clear hnn
 have bV:But [] w (w.alloc (.cells #[] 37)):=(But.refl _ _).alloc _
 have hown:(w.alloc (.cells #[] 37)).ownsRow w.heap.size 37 1 (.slice (some ⟨w.heap.size,0,none⟩) 0 0) 0 []:=⟨rfl,.inr ⟨w.heap.size,0,#[],rfl,Nat.le_refl _,by show (w.heap.push _)[w.heap.size]? = some _;exact Array.getElem?_push_size,by omega,by unfold maxLen;omega,rfl,rfl⟩⟩
 obtain⟨g',c',w',hr,hc1,hc2,hrat,hb⟩:=ae CP _ w.heap.size bV hown
 have HR:=af hr
 have HRA:=af hrat
 have HB0:=af hb
 clear hr hrat hb bV hown CP hcap0 hc2
 go_enter func123,ntmps123
 go_wp2_with (at_builtin;refine ja rfl _ _ 42 42 rfl _ _ (.slice (some ⟨g',0,none⟩) n c') w' rfl rfl (ae HR) ?_)
 clear HR
 go_loopw [0] (fun sv wr=>∃ j:Nat,m+1≤j∧j≤n∧sv=.slice (some ⟨g',0,none⟩) j c'∧Hid (But [] w' wr)) (fun sv _=>qfh sv)
 case atStart=>exact⟨n,hm,Nat.le_refl _,rfl,But.refl _ _⟩
 case round =>(
 obtain⟨j,hj1,hj2,rfl,HB⟩:=hrel
 rename World=>wr
 obtain⟨i,hi⟩:∃ i,i+1=j:=⟨j-1,by omega⟩
 have hjI:(j:Int)-1=(i:Int):=by omega
 have hin:i<n:=by omega
 have hij:i<j:=by omega
 have hic:i≤c':=by omega
 obtain⟨x,hx,hxr⟩:=ae GE wr g' c' i ((ae HRA).but (ae HB)) hin
 obtain⟨sg,hsg⟩:∃ sg,sg=(F i).num.sign:=⟨_,rfl⟩
 have SGi:=ae SG i hin wr x hxr
 rw[← hsg] at SGi
 have SGH:=af SGi
 have HI:=af hi
 have HSG:=af hsg
 clear SGi hxr hi hsg
 by_cases hlast:j=m+1
 ·(
 by_cases hm0:m=0
 ·(
 have hj3:¬ (j:Int) > 1:=by omega
 have FIN:=af (And.intro (ae TK wr g' c' ((ae HRA).but (ae HB))) ((ae HB0).trans' (ae HB)))
 rw[← hlast] at FIN
 clear hlast hm0
 go_wp2
 go_ret
 exact⟨_,rfl,(ae FIN).1,(ae FIN).2⟩)
 ·(
 have hj3:(j:Int) > 1:=by omega
 have hs0:(sg==0)=false:=beq_eq_false_iff_ne.2 (by
  rw[ae HSG]
  have e:i=m:=by have:=ae HI;omega
  rw[e]
  intro h
  exact (ae HO).elim hm0 (fun h2=>h2 (Int.sign_eq_zero_iff_zero.1 h)))
 have HL:=af hlast
 clear hlast hm0
 go_wp2_with fail
 refine (ae SGH).mono ?_
 rintro e w2 ⟨rfl,hb2⟩
 have FIN:=af (And.intro (ae TK w2 g' c' (((ae HRA).but (ae HB)).but hb2)) (((ae HB0).trans' (ae HB)).trans' hb2))
 rw[← ae HL] at FIN
 clear hb2 SGH
 go_wp2
 go_ret
 exact⟨_,rfl,(ae FIN).1,(ae FIN).2⟩))
 ·(
 have hj3:(j:Int) > 1:=by omega
 have hs0:(sg==0)=true:=by
  rw[ae HSG,ae HZ i (by have:=ae HI;omega) hin]
  rfl
 have hmi:m+1≤i:=by have:=ae HI;omega
 go_wp2_with fail
 refine (ae SGH).mono ?_
 rintro e w2 ⟨rfl,hb2⟩
 have NB:=af ((ae HB).trans' hb2)
 clear hb2 SGH hx
 go_wp2
 exact⟨⟨i,hmi,by omega,rfl,ae NB⟩,by simp[qfh];omega⟩)))
end Go.Proofs.YtagmkkiagjmimaaGreatDoor
