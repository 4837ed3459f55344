/- Means and spreads, as the reference reck -/
import Derived.Test.YtffghofheeleeaaGreatDoorKRLdqS
import Derived.Test.YtffghofheeleeaaGreatDoorKRLrqS
namespace Go.Proofs.YtffghofheeleeaaGreatDoor
open Go.Proofs.Tryz
open Go.RowKit
set_option maxHeartbeats 16000000
set_option maxRecDepth 100000
set_option linter.unusedVariables false
theorem zvi (k:Nat):(((k+1:Nat):Int):Rat)=((k:Int):Rat)+1:=by
 rw[Int.natCast_add,Rat.intCast_add];rfl
def psR (F:Nat→Rat) (m a b:Nat):Rat:=sgR (fun i=>sgR (fun j=>(F i-F j)*(F i-F j)) m) a+sgR (fun j=>(F a-F j)*(F a-F j)) b
theorem qlc (F:Nat→Rat) (x:Rat):∀ b,sgR (fun j=>(x-F j)*(x-F j)) b=((b:Int):Rat)*(x*x)-x*sgR F b-x*sgR F b+sgR (fun j=>F j*F j) b
 | 0=>by
  show (0:Rat)=((0:Int):Rat)*(x*x)-x*0-x*0+0
  rw[show ((0:Int):Rat)=0 from rfl];grind
 | b+1=>by
  have ih:=qlc F x b
  show sgR (fun j=>(x-F j)*(x-F j)) b+(x-F b)*(x-F b)=(((b+1:Nat):Int):Rat)*(x*x)-x*(sgR F b+F b)-x*(sgR F b+F b)+(sgR (fun j=>F j*F j) b+F b*F b)
  rw[ih,zvi]
  generalize ((b:Int):Rat)=bb
  generalize sgR F b=s1
  generalize sgR (fun j=>F j*F j) b=s2
  generalize F b=y
  grind
theorem qdd (F:Nat→Rat) (m:Nat):∀ a,sgR (fun i=>sgR (fun j=>(F i-F j)*(F i-F j)) m) a=((m:Int):Rat)*sgR (fun j=>F j*F j) a-sgR F a*sgR F m-sgR F a*sgR F m+((a:Int):Rat)*sgR (fun j=>F j*F j) m
 | 0=>by
  show (0:Rat)=((m:Int):Rat)*0-0*sgR F m-0*sgR F m+((0:Int):Rat)*sgR (fun j=>F j*F j) m
  rw[show ((0:Int):Rat)=0 from rfl];grind
 | a+1=>by
  have ih:=qdd F m a
  show sgR (fun i=>sgR (fun j=>(F i-F j)*(F i-F j)) m) a+sgR (fun j=>(F a-F j)*(F a-F j)) m=((m:Int):Rat)*(sgR (fun j=>F j*F j) a+F a*F a)-(sgR F a+F a)*sgR F m-(sgR F a+F a)*sgR F m+(((a+1:Nat):Int):Rat)*sgR (fun j=>F j*F j) m
  rw[ih,qlc,zvi]
  generalize ((m:Int):Rat)=mm
  generalize ((a:Int):Rat)=aa
  generalize sgR F m=s1
  generalize sgR (fun j=>F j*F j) m=s2
  generalize sgR F a=t1
  generalize sgR (fun j=>F j*F j) a=t2
  generalize F a=y
  grind
theorem qrm (F:Nat→Rat) (m a b:Nat):psR F m a b=((m:Int):Rat)*sgR (fun j=>F j*F j) a-sgR F a*sgR F m-sgR F a*sgR F m+((a:Int):Rat)*sgR (fun j=>F j*F j) m+(((b:Int):Rat)*(F a*F a)-F a*sgR F b-F a*sgR F b+sgR (fun j=>F j*F j) b):=by
 unfold psR
 rw[qdd,qlc]
theorem qqs (F:Nat→Rat) (m a b:Nat):psR F m a b+(F a-F b)*(F a-F b)=psR F m a (b+1):=by
 show sgR _ a+sgR _ b+_=sgR _ a+(sgR _ b+_)
 rw[Rat.add_assoc]
theorem qqr (F:Nat→Rat) (m a:Nat):psR F m a m=psR F m (a+1) 0:=by
 show sgR _ a+sgR _ m=(sgR _ a+_)+0
 rw[Rat.add_zero]
theorem qgs (F:Nat→Rat) (n:Nat) (hn:2≤n):spR F n*(((2*(n:Int)*((n:Int)-1):Int)):Rat)=psR F n n 0:=by
 obtain⟨k,rfl⟩:∃ k,n=k+1:=⟨n-1,by omega⟩
 rw[qrm]
 unfold spR
 rw[show k+1-1=k by omega,show ((2*((k+1:Nat):Int)*(((k+1:Nat):Int)-1):Int))=(2*((k:Int)+1))*(k:Int) by rw[Int.natCast_add];grind,Rat.intCast_mul,Rat.intCast_mul,Rat.intCast_add,zvi]
 have hk:((k:Int):Rat)≠0:=fun e=>by
  have:(k:Int)=0:=Rat.intCast_inj.1 e
  omega
 have hk1:((k:Int):Rat)+1≠0:=fun e=>by
  rw[← zvi] at e
  have:((k+1:Nat):Int)=0:=Rat.intCast_inj.1 e
  omega
 show _=(((k:Int):Rat)+1)*sgR _ (k+1)-_-_+(((k:Int):Rat)+1)*sgR _ (k+1)+(((0:Int):Rat)*_-F (k+1)*0-F (k+1)*0+0)
 rw[show ((0:Int):Rat)=0 from rfl,show ((1:Int):Rat)=1 from rfl,show ((2:Int):Rat)=2 from rfl]
 generalize sgR F (k+1)=s1
 generalize sgR (fun j=>F j*F j) (k+1)=s2
 generalize F (k+1)=y
 generalize ((k:Int):Rat)=kk at *
 rw[Rat.div_def,Rat.div_def]
 have e1:kk⁻¹*kk=1:=Rat.inv_mul_cancel _ hk
 have e2:(kk+1)⁻¹*(kk+1)=1:=Rat.inv_mul_cancel _ hk1
 generalize kk⁻¹=i1 at *
 generalize (kk+1)⁻¹=i2 at *
 have:(s2-s1*i2*s1)*i1*(2*(kk+1)*kk)=2*(s2*(kk+1)-s1*s1*(i2*(kk+1)))*(i1*kk):=by grind
 rw[this,e1,e2]
 grind
theorem qzp (F:Nat→Rat) (n a b c:Nat) (hn:n≤40) (ha:a≤n) (hb:b≤n) (hc:c≤500) (lf:∀ i,i<n→zu (F i) c) (hab:a=n→b=0):zu (psR F n a b) 1000000:=by
 have q1:∀ k,k≤n→zu (sgR F k) 20100:=fun k hk=>(zbx (F:=F) (c:=c) k (fun i hi=>lf i (by omega))).mono (by
  have:k*(c+1)≤40*501:=Nat.mul_le_mul (by omega) (by omega)
  omega)
 have q2:∀ k,k≤n→zu (sgR (fun j=>F j*F j) k) 40100:=fun k hk=>(zbx (F:=fun j=>F j*F j) (c:=c+c) k (fun i hi=>(lf i (by omega)).mul (lf i (by omega)))).mono (by
  have:k*(c+c+1)≤40*1001:=Nat.mul_le_mul (by omega) (by omega)
  omega)
 have qi:∀ k:Nat,k≤40→zu ((k:Int):Rat) 2:=fun k hk=>zu.int (by omega)
 have o1:zu (((n:Int):Rat)*sgR (fun j=>F j*F j) a-sgR F a*sgR F n-sgR F a*sgR F n+((a:Int):Rat)*sgR (fun j=>F j*F j) n) 200000:=((((((qi n hn).mul (q2 a ha)).sub ((q1 a ha).mul (q1 n (Nat.le_refl _)))).sub ((q1 a ha).mul (q1 n (Nat.le_refl _)))).add ((qi a (by omega)).mul (q2 n (Nat.le_refl _))))).mono (by omega)
 by_cases h:a=n
 ·have hb0:=hab h
  have e:psR F n a b=((n:Int):Rat)*sgR (fun j=>F j*F j) a-sgR F a*sgR F n-sgR F a*sgR F n+((a:Int):Rat)*sgR (fun j=>F j*F j) n:=by
   unfold psR
   rw[hb0,qdd]
   show _+0=_
   rw[Rat.add_zero]
  rw[e]
  exact o1.mono (by omega)
 ·rw[qrm]
  have la:=lf a (by omega)
  have o2:zu (((b:Int):Rat)*(F a*F a)-F a*sgR F b-F a*sgR F b+sgR (fun j=>F j*F j) b) 200000:=(((((qi b (by omega)).mul (la.mul la)).sub (la.mul (q1 b hb))).sub (la.mul (q1 b hb))).add (q2 b hb)).mono (by omega)
  exact (o1.add o2).mono (by omega)
theorem zkd (v:Value) (fs:List Rat) (F:Nat→Rat) (c:Nat) (w:World) (hr:jr w v fs) (hF:∀ i,i<fs.length→fs[i]? = some (F i)) (h1:1≤fs.length) (hn:fs.length≤1000) (hc:c≤1000) (lf:∀ i,i<fs.length→zu (F i) c) :
  Calls prog 67 #[v] w fun e w'=>∃ zb,e=.returned (.pointer (some ⟨zb,0,none⟩))∧za w' zb (sgR F fs.length/(((fs.length:Nat):Int):Rat))∧But [] w w':=by
 have ls:∀ k,k≤fs.length→zu (sgR F k) 1100000:=fun k hk=>(zbx (F:=F) (c:=c) k (fun i hi=>lf i (by omega))).mono (by
  have:k*(c+1)≤1000*1001:=Nat.mul_le_mul (by omega) (by omega)
  omega)
 have SM:=af (qcz v fs F w hr hF hn (fun i hi=>(lf i hi).mono (by omega)) (fun k hk=>(ls k hk).mono (by omega)))
 have n0:(((fs.length:Nat):Int):Rat).num≠0:=by rw[Rat.num_intCast];omega
 have nn:(((fs.length:Nat):Int):Rat)≠0:=fun e=>n0 (by rw[e];rfl)
 have DV:=af (fun W x y (hx:rz W x (sgR F fs.length)) (hy:za W y (((fs.length:Nat):Int):Rat))=>zwa x y _ _ _ W hx hy ((ls _ (Nat.le_refl _)).mono (by omega)) ((zu.int (by omega)).mono (by omega)) n0 (Rat.div_mul_cancel nn))
 have IL:=af (fun W=>rf ((fs.length:Nat):Int) W (by omega) (by omega))
 obtain⟨a,cap,rfl,hcap⟩:=hr.open
 clear hr hF lf ls n0 nn
 generalize fs.length=n at *
 go_enter func67,ntmps67
 go_wp2_with fail
 refine (ae SM).mono ?_
 rintro e w1 ⟨g1,rfl,hs,hb1⟩
 have S1:=af (And.intro hs hb1)
 clear hs hb1 SM
 go_wp2_with fail
 refine (ae IL _).mono ?_
 rintro e w2 ⟨g2,rfl,hi,hb2⟩
 have D2:=af (ae DV _ _ _ ((ae S1).1.but hb2) hi)
 have B2:=af ((ae S1).2.trans' hb2)
 clear hi hb2 S1 DV IL
 go_wp2_with fail
 refine (ae D2).mono ?_
 rintro e w3 ⟨g3,rfl,h3,hb3⟩
 have F3:=af (And.intro h3 ((ae B2).trans' hb3))
 clear h3 hb3 B2 D2
 go_wp2
 go_ret
 exact⟨g3,rfl,ae F3⟩
theorem zlg (v:Value) (fs:List Rat) (F:Nat→Rat) (c:Nat) (w:World) (hr:jr w v fs) (hF:∀ i,i<fs.length→fs[i]? = some (F i)) (h1:2≤fs.length) (hn:fs.length≤40) (hc:c≤500) (lf:∀ i,i<fs.length→zu (F i) c) :
  Calls prog 69 #[v] w fun e w'=>∃ zb,e=.returned (.pointer (some ⟨zb,0,none⟩))∧za w' zb (spR F fs.length)∧But [] w w':=by
 obtain⟨n,hnn⟩:∃ n,n=fs.length:=⟨_,rfl⟩
 obtain⟨a,cap,rfl,hcap,hV⟩:=qdb hr hF
 rw[← hnn] at h1 hn hcap hV lf
 rw[← hnn]
 have hps:∀ a b,a≤n→b≤n→(a=n→b=0)→zu (psR F n a b) 1000000:=fun a b ha hb h=>qzp F n a b c hn ha hb hc lf h
 have hd:∀ a b,a<n→b<n→zu (F a-F b) 1001∧zu ((F a-F b)*(F a-F b)) 2002:=fun a b ha hb=>by
  have:=((lf a ha).sub (lf b hb)).mono (show c+c+1≤1001 by omega)
  exact⟨this,(this.mul this).mono (by omega)⟩
 obtain⟨N,hN⟩:∃ N:Int,N=2*(n:Int)*((n:Int)-1):=⟨_,rfl⟩
 have hN1:0<N:=by rw[hN];exact Int.mul_pos (by omega) (by omega)
 have hN2:N≤3120:=by rw[hN];exact Int.le_trans (Int.mul_le_mul (show 2*(n:Int)≤80 by omega) (show (n:Int)-1≤39 by omega) (by omega) (by omega)) (by decide)
 have hsp:spR F n*((N:Int):Rat)=psR F n n 0:=by rw[hN];exact qgs F n h1
 have hw1:Hid (wrap64 (2*(n:Int))=2*(n:Int)):=by show _=_;unfold wrap64;omega
 have hw2:Hid (wrap64 ((n:Int)-1)=(n:Int)-1):=by show _=_;unfold wrap64;omega
 have hw3:Hid (wrap64 (2*(n:Int)*((n:Int)-1))=N):=by show _=_;rw[← hN];unfold wrap64;omega
 have I0:=af (fun W=>rf 0 W (by omega) (by omega))
 have IN:=af (fun W=>rf N W (by omega) (by omega))
 have DV:=af (fun W x y (hx:za W x (psR F n n 0)) (hy:za W y ((N:Int):Rat))=>zfn x y _ _ _ W hx hy ((hps n 0 (by omega) (by omega) (fun _=>rfl)).mono (by omega)) ((zu.int (by omega)).mono (by omega)) (by rw[Rat.num_intCast];omega) hsp)
 have z0:psR F n 0 0=((0:Int):Rat):=by
  show (0:Rat)+0=_
  rw[Rat.add_zero];rfl
 have HV:=af hV
 have HP:=af hps
 have HD:=af hd
 have HZ:=af z0
 have HL:Hid (∀ i,i<n→zu (F i) 500):=fun i hi=>(lf i hi).mono hc
 clear hV hr hF lf hnn hps hd hN1 hN2 hsp hN z0 hc
 go_enter func69,ntmps69
 go_wp2_with fail
 refine (ae I0 _).mono ?_
 rintro e w1 ⟨g1,rfl,hz,hb1⟩
 rw[← ae HZ] at hz
 have S1:=af (And.intro hz hb1)
 clear hz hb1 I0 HZ
 go_wp2
 go_loopw [3,11] (fun p i wr=>∃ (k pb:Nat),k≤n∧i=.int .i64 (k:Int)∧p=.pointer (some ⟨pb,0,none⟩)∧Hid (za wr pb (psR F n k 0)∧But [] w wr)) (fun _ i _=>n-(intOf i).toNat)
 case atStart=>exact⟨0,g1,Nat.zero_le _,rfl,rfl,ae S1⟩
 case round =>
  obtain⟨k,pb,hk,rfl,rfl,HI⟩:=hrel
  rename World=>wr
  clear S1
  by_cases hlt:k<n
  ·obtain⟨b,off,g,rfl,c0,hT⟩:=ae HV wr (ae HI).2 k hlt
   have XA:=af hT
   clear hT
   go_wp2
   go_loopw [3,17] (fun p i wq=>∃ (j pc:Nat),j≤n∧i=.int .i64 (j:Int)∧p=.pointer (some ⟨pc,0,none⟩)∧Hid (za wq pc (psR F n k j)∧But [] wr wq)) (fun _ i _=>n-(intOf i).toNat)
   case atStart=>exact⟨0,pb,Nat.zero_le _,rfl,rfl,(ae HI).1,But.refl _ _⟩
   case round =>
    obtain⟨j,pc,hj,rfl,rfl,HJ⟩:=hrel
    rename World=>wq
    by_cases hlj:j<n
    ·obtain⟨b',off',g',e',c1,hY⟩:=ae HV wq ((ae HI).2.trans' (ae HJ).2) j hlj
     simp only[Option.some.injEq,Addr.mk.injEq,and_true] at e'
     obtain⟨rfl,rfl⟩:=e'
     have SU:=af (fun W (hb:But [] wq W)=>zfm g g' (F k) (F j) W (((ae XA).but (ae HJ).2).but hb) (hY.but hb) ((ae HL k hlt).mono (by omega)) ((ae HL j hlj).mono (by omega)))
     have MU:=af (fun W x y (hx:za W x (F k-F j)) (hy:za W y (F k-F j))=>pz x y _ _ W hx hy ((ae HD k j hlt hlj).1.mono (by omega)) ((ae HD k j hlt hlj).1.mono (by omega)))
     have AD:Hid (∀ W x,But [] wq W→za W x ((F k-F j)*(F k-F j))→Calls prog 51 #[.pointer (some ⟨pc,0,none⟩),.pointer (some ⟨x,0,none⟩)] W fun e w'=>∃ zb,e=.returned (.pointer (some ⟨zb,0,none⟩))∧za w' zb (psR F n k (j+1))∧But [] W w'):=fun W x hb hx=>by
      rw[← qqs]
      exact zai pc x _ _ W ((ae HJ).1.but hb) hx ((ae HP k j (by omega) (by omega) (by omega)).mono (by omega)) ((ae HD k j hlt hlj).2.mono (by omega))
     have BJ:=af (ae HJ).2
     clear hY HJ
     go_wp2_with fail
     refine (ae SU _ (But.refl _ _)).mono ?_
     rintro e w2 ⟨x2,rfl,h2,hb2⟩
     have Q2:=af (And.intro h2 hb2)
     clear h2 hb2
     go_wp2_with fail
     refine (ae SU _ (ae Q2).2).mono ?_
     rintro e w3 ⟨x3,rfl,h3,hb3⟩
     have M3:=af (ae MU _ _ _ ((ae Q2).1.but hb3) h3)
     have B3:=af ((ae Q2).2.trans' hb3)
     clear h3 hb3 Q2 SU MU
     go_wp2_with fail
     refine (ae M3).mono ?_
     rintro e w4 ⟨x4,rfl,h4,hb4⟩
     have B4:=af ((ae B3).trans' hb4)
     have A4:=af (ae AD _ _ (ae B4) h4)
     clear h4 hb4 B3 M3 AD
     go_wp2_with fail
     refine (ae A4).mono ?_
     rintro e w5 ⟨x5,rfl,h5,hb5⟩
     have N5:=af (And.intro h5 ((ae BJ).trans' ((ae B4).trans' hb5)))
     clear h5 hb5 B4 A4 BJ
     go_wp2
     exact⟨⟨j+1,x5,by omega,by go_num,rfl,ae N5⟩,by simp[intOf];omega⟩
    ·obtain rfl:j=n:=by omega
     have N6:Hid (za wq pc (psR F j (k+1) 0)∧But [] w wq):=⟨by rw[← qqr];exact (ae HJ).1,(ae HI).2.trans' (ae HJ).2⟩
     clear HJ HI XA
     go_wp2
     exact⟨⟨k+1,pc,by omega,by go_num,rfl,ae N6⟩,by simp[intOf];omega⟩
  ·obtain rfl:k=n:=by omega
   go_wp2_with fail
   rw[ae hw3]
   refine (ae IN _).mono ?_
   rintro e w2 ⟨g2,rfl,h2,hb2⟩
   have D2:=af (ae DV _ _ _ ((ae HI).1.but hb2) h2)
   have B2:=af ((ae HI).2.trans' hb2)
   clear h2 hb2 HI DV IN
   go_wp2_with fail
   refine (ae D2).mono ?_
   rintro e w3 ⟨g3,rfl,h3,hb3⟩
   have F3:=af (And.intro h3 ((ae B2).trans' hb3))
   clear h3 hb3 B2 D2
   go_wp2
   go_ret
   exact⟨g3,rfl,ae F3⟩
theorem zxk (W:World) (v:Value) (fs:List Rat) (us:List Value) (base:Nat) (hown:zae W base v fs us) (g0:Nat) (b0:Nat) (hcell:W.cell? ⟨g0,0,none⟩=some (.pointer (some ⟨b0,0,none⟩))) (hk:fs.length<1000000) (v':Value) (w':World) (hr:(Builtin.append_ #[69,69] 69 #[v,.slice (some ⟨g0,0,none⟩) 1 1]).run prog W=.ok v' w') :
  v'.ownBlock=v.ownBlock∨∃ b,v'.ownBlock=some b∧W.heap.size≤b:=by
 obtain⟨i,hi,hz,hs,hbt⟩:=qbh
 have ho:=hown.own
 have hnews:∀ (j:Nat) (u:Value),[Value.pointer (some ⟨b0,0,none⟩)][j]? = some u→W.cell? ((⟨g0,0,none⟩:Addr).add j)=some u:=fun j u hj=>by
  rcases j with _ | j
  ·simp at hj;subst hj;exact hcell
  ·simp at hj
 rcases ho.2 with ⟨rfl,h0⟩|⟨g,cap,cur,rfl,hbg,hgg,hnc,hcm,hcs,htake⟩
 ·have hr2:=run_append_nil (P:=prog) W 69 69 37 i _ underlying69 hi hz ⟨g0,0,none⟩ 1 1 [.pointer (some ⟨b0,0,none⟩)] (by rw[hs];rfl) hnews (by omega) (by omega) (by omega)
  rw[hr2] at hr
  obtain⟨rfl,-⟩:=Result.ok.inj hr
  exact .inr ⟨W.heap.size,rfl,Nat.le_refl _⟩
 ·by_cases hroom:fs.length+1≤cap
  ·have hr2:=run_append_room (P:=prog) W 69 69 37 i underlying69 hi g fs.length cap cur hgg ⟨g0,0,none⟩ 1 1 [.pointer (some ⟨b0,0,none⟩)] (by rw[hs];rfl) hnews (fun u hu=>by
    simp only[List.mem_singleton] at hu
    subst hu;rfl) hroom (by rw[hs,hcs];simp;omega)
   rw[hr2] at hr
   obtain⟨rfl,-⟩:=Result.ok.inj hr
   exact .inl rfl
  ·have hr2:=run_append_grow (P:=prog) W 69 69 37 i _ underlying69 hi hz ⟨g,0,none⟩ fs.length cap us (by rw[hs];exact ho.1) (ho.cells (g:=g) rfl) ⟨g0,0,none⟩ 1 1 [.pointer (some ⟨b0,0,none⟩)] (by rw[hs];rfl) hnews (by omega) (by omega) (growslice_fits (by omega) (by rw[hbt];omega))
   rw[hr2] at hr
   obtain⟨rfl,-⟩:=Result.ok.inj hr
   exact .inr ⟨W.heap.size,rfl,Nat.le_refl _⟩
structure znw (wb:World) (w:World) (x y:Value) (fs gs:List Rat):Prop where
 one:∃ us,zae w wb.heap.size x fs us
 two:∃ us,zae w wb.heap.size y gs us
 apart:x.ownBlock=none∨y.ownBlock=none∨x.ownBlock≠y.ownBlock
 but:But [] wb w
theorem znw.start (w:World):znw w w (.slice none 0 0) (.slice none 0 0) [] []:=⟨⟨[],zae.empty _ _⟩,⟨[],zae.empty _ _⟩,.inl rfl,But.refl _ _⟩
theorem znw.step {wb w w':World} {x y:Value} {fs gs:List Rat} (h:znw wb w x y fs gs) (hb:But [] w w'):znw wb w' x y fs gs:=⟨h.one.elim fun us hu=>⟨us,hu.but hb⟩,h.two.elim fun us hu=>⟨us,hu.but hb⟩,h.apart,h.but.trans' hb⟩
theorem znw.turn {wb w:World} {x y:Value} {fs gs:List Rat} (h:znw wb w x y fs gs):znw wb w y x gs fs:=⟨h.two,h.one,by
 rcases h.apart with h | h | h
 ·exact .inr (.inl h)
 ·exact .inl h
 ·exact .inr (.inr (Ne.symm h)),h.but⟩
theorem znw.push {wb w:World} {x y:Value} {fs gs:List Rat} (h:znw wb w x y fs gs) (g b:Nat) (f:Rat) (c:w.cell? ⟨g,0,none⟩=some (.pointer (some ⟨b,0,none⟩))) (hp:za w b f) (hk:fs.length<1000000) :
  ∃ v' w',(Builtin.append_ #[69,69] 69 #[x,.slice (some ⟨g,0,none⟩) 1 1]).run prog w=.ok v' w'∧znw wb w' v' y (fs++[f]) gs∧∀ (b:Nat) (r:Rat),za w b r→za w' b r:=by
 obtain⟨us,h1⟩:=h.one
 obtain⟨vs,h2⟩:=h.two
 obtain⟨v',w',hr,ho,hB,hB2,hsz,stay⟩:=zhi w wb x fs us wb.heap.size h1 g _ f c ⟨b,rfl,hp⟩ hk h.but (Nat.le_refl _) h.but.size
 have hw:=zxk w x fs us wb.heap.size h1 g b c hk v' w' hr
 refine⟨v',w',hr,⟨⟨_,ho⟩,⟨vs,⟨?_,h2.len,fun i q hq=>?_,h2.nil⟩⟩,?_,hB⟩,stay⟩
 ·refine h2.own.kept (row:=x.ownBlock) ⟨hB2.os,hB2.tape,hB2.output,hB2.size,fun j hj hn=>hB2.block j hj (fun hm=>hn ?_)⟩ ?_
  ·have:=Option.mem_toList.1 hm
   exact (Option.mem_def.1 this).symm
  ·rcases h.apart with e | e | e
   ·rw[e]
    by_cases h0:y.ownBlock=none
    ·exact .inl h0
    ·exact .inr h0
   ·exact .inl e
   ·exact .inr (Ne.symm e)
 ·obtain⟨u,e1,b',e2,hr'⟩:=h2.val i q hq
  exact⟨u,e1,b',e2,stay _ _ hr'⟩
 ·by_cases h0:y.ownBlock=none
  ·exact .inr (.inl h0)
  ·refine .inr (.inr ?_)
   rcases hw with e|⟨b1,e,hb1⟩
   ·rcases h.apart with e2 | e2 | e2
    ·rw[e,e2];exact Ne.symm h0
    ·exact absurd e2 h0
    ·rw[e];exact e2
   ·obtain⟨g2,hg2⟩:=Option.ne_none_iff_exists'.1 h0
    rw[e,hg2]
    have:=(h2.own.lt g2 hg2).2
    intro e3
    have:=Option.some.inj e3
    omega
end Go.Proofs.YtffghofheeleeaaGreatDoor
