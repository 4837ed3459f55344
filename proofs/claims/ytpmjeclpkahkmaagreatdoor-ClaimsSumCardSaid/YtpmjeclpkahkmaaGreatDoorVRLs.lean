/- Quotients of the reference's where there -/
import Derived.Test.YtpmjeclpkahkmaaGreatDoorVHJr
import Derived.Test.YtpmjeclpkahkmaaGreatDoorVHPb
namespace Go.Proofs.YtpmjeclpkahkmaaGreatDoor
open Go.Proofs.Tryz
open Go.RowKit
set_option maxHeartbeats 16000000
set_option maxRecDepth 100000
set_option linter.unusedVariables false
theorem zck {w:World} {v:Value} {fs:List Rat} {F:Nat→Rat} (hr:za w v fs) (hF:∀ i,i<fs.length→fs[i]? = some (F i)):∃ a cap,v=.slice a fs.length cap∧fs.length≤cap∧∀ W,But [] w W→∀ i,i<fs.length→∃ b off g,a=some ⟨b,off,none⟩∧W.cell? ⟨b,off+i,none⟩=some (.pointer (some ⟨g,0,none⟩))∧zo W g (F i):=by(
obtain⟨a,cap,e,hc⟩:=hr.open
refine⟨a,cap,e,hc,fun W hb i hi=>?_⟩
have h0:=hr.but hb
rw[e] at h0
obtain⟨-,b,off,g,f,h1,h2,h3,h4⟩:=h0.at i hi
rw[hF i hi] at h3
obtain rfl:=Option.some.inj h3
exact⟨b,off,g,h1,h2,h4⟩)
theorem qip (xb yb:Nat) (f g:Rat) (w:World) (hx:zo w xb f) (hy:zo w yb g) (lf:jc f 2000000) (lg:jc g 2000000) :
  Calls prog 96 #[.pointer (some ⟨xb,0,none⟩),.pointer (some ⟨yb,0,none⟩)] w fun e w'=>∃ c,e=.returned (.int .i64 c)∧(c<0↔f<g)∧(0<c↔g<f)∧(c=0↔f=g)∧But [] w w':=by(
have hfd:0<f.den:=Nat.pos_of_ne_zero f.den_nz
have hgd:0<g.den:=Nat.pos_of_ne_zero g.den_nz
obtain⟨lf1,lf2⟩:=lf
obtain⟨lg1,lg2⟩:=lg
have d1:(wd 4294967296 ((f.den:Nat):Int).natAbs).length≤2000000:=by rw[Int.natAbs_natCast];exact lf2
have d2:(wd 4294967296 ((g.den:Nat):Int).natAbs).length≤2000000:=by rw[Int.natAbs_natCast];exact lg2
have p1:=ji f.num (g.den:Int) _ _ lf1 d2
have p2:=ji g.num (f.den:Int) _ _ lg1 d1
have l1:=Rat.lt_iff (a:=f) (b:=g)
have l2:=Rat.lt_iff (a:=g) (b:=f)
have e0:f=g↔¬ f<g∧¬ g<f:=⟨fun h=>by rw[h];exact⟨Rat.lt_irrefl,Rat.lt_irrefl⟩,fun ⟨h1,h2⟩=>Rat.le_antisymm (Rat.not_lt.1 h2) (Rat.not_lt.1 h1)⟩
refine (ztd xb yb f.num g.num f.den g.den w hx hy hfd hgd (by omega) (by omega) (by omega) (by omega) _ _ rfl rfl (by omega) (by omega)).mono ?_
rintro e w' ⟨rfl,hb⟩
refine⟨_,rfl,?_,?_,?_,hb⟩
·rw[l1];unfold oo;split
 ·omega
 ·split <;> omega
·rw[l2];unfold oo;split
 ·omega
 ·split <;> omega
·rw[e0,l1,l2];unfold oo;split
 ·omega
 ·split <;> omega)
theorem zyd (fs:List Rat):∀ k,k≤fs.length→zdr (fs.take k)=sgR (fun j=>fs[j]?.getD 0) k
 | 0,_=>by rw[List.take_zero];rfl
 | k+1,h=>by
  rw[zgn fs k (by omega),zyd fs k (by omega)]
  rfl
theorem zvs (fs:List Rat):zdr fs=sgR (fun j=>fs[j]?.getD 0) fs.length:=by
 have:=zyd fs fs.length (Nat.le_refl _)
 rwa [List.take_length] at this
theorem zsz (v:Value) (fs:List Rat) (F:Nat→Rat) (w:World) (hr:za w v fs) (hF:∀ i,i<fs.length→fs[i]? = some (F i)) (h1:1≤fs.length) (hn:fs.length≤1000) (lf:∀ i,i<fs.length→jc (F i) 2000000) (ls:∀ k,k≤fs.length→jc (sgR F k) 2000000) :
  Calls prog 189 #[v] w fun e w'=>∃ zb,e=.returned (.pointer (some ⟨zb,0,none⟩))∧zo w' zb (sgR F fs.length)∧But [] w w':=by(
obtain⟨a,cap,rfl,hcap,hV⟩:=zck hr hF
have HV:=af hV
have HL:=af lf
have HS:=af ls
clear hV hr hF lf ls
generalize fs.length=n at *
have hb0:=qco w 141
have bW:But [] w (w.alloc (.cells #[.bool false,.slice none 0 0,.bool false,.slice none 0 0] 141)):=(But.refl _ _).alloc _
obtain⟨W,hW⟩:∃ W,W=w.alloc (.cells #[.bool false,.slice none 0 0,.bool false,.slice none 0 0] 141):=⟨_,rfl⟩
rw[← hW] at hb0 bW
obtain⟨g0,hg0⟩:∃ g,g=w.heap.size:=⟨_,rfl⟩
rw[← hg0] at hb0
have I0:Hid (zzi W g0 (sgR F 0)∧(0<0→zo W g0 (sgR F 0))∧But [] w W):=⟨.inr ⟨rfl,hb0⟩,fun h=>absurd h (by omega),bW⟩
have HW:=af hW
clear hW hb0 bW
go_enter func189,ntmps189
go_wp2
rw[← ae HW,← hg0]
clear HW hg0
go_loopw [3,9] (fun p i wr=>∃ (k pb:Nat),k≤n∧i=.int .i64 (k:Int)∧p=.pointer (some ⟨pb,0,none⟩)∧Hid (zzi wr pb (sgR F k)∧(0<k→zo wr pb (sgR F k))∧But [] w wr)) (fun _ i _=>n-(intOf i).toNat)
case atStart=>exact⟨0,g0,Nat.zero_le _,rfl,rfl,ae I0⟩
case round =>(
obtain⟨k,pb,hk,rfl,rfl,HI⟩:=hrel
rename World=>wr
clear I0
by_cases hlt:k<n
·(
obtain⟨b,off,g,rfl,c0,hT⟩:=ae HV wr (ae HI).2.2 k hlt
have AD:=af (qiq pb g (sgR F k) (F k) wr (ae HI).1 hT (ae HS k (by omega)) (ae HL k hlt))
clear hT
go_wp2_with fail
refine (ae AD).mono ?_
rintro e w2 ⟨g2,rfl,h2,hb2⟩
have NS:Hid (zzi w2 g2 (sgR F (k+1))∧(0<k+1→zo w2 g2 (sgR F (k+1)))∧But [] w w2):=⟨.inl h2,fun _=>h2,(ae HI).2.2.trans' hb2⟩
clear h2 hb2 AD
go_wp2
exact⟨⟨k+1,g2,by omega,by go_num,rfl,ae NS⟩,by simp[intOf];omega⟩)
·obtain rfl:k=n:=by omega
 go_wp2
 go_ret
 exact⟨pb,rfl,(ae HI).2.1 (by omega),(ae HI).2.2⟩))
theorem zol (v:Value) (fs:List Rat) (w:World) (c:Nat) (hr:za w v fs) (h1:1≤fs.length) (hn:fs.length≤201) (lf:∀ f ∈ fs,Len f c) (hc:c≤100) (z:Int) (hz:z=if fs.any (fun f=>decide (f.num<0)) then 1 else if zdr fs=1 then 0 else 10) :
  Calls prog 98 #[v,.int .i64 ((fs.length:Nat):Int)] w fun e w'=>e=.returned (.int .i64 z)∧But [] w w':=by(
obtain⟨F,hFd⟩:∃ F:Nat→Rat,F=fun j=>fs[j]?.getD 0:=⟨_,rfl⟩
have hF:∀ i,i<fs.length→fs[i]? = some (F i):=fun i hi=>by
 rw[hFd,List.getElem?_eq_getElem hi]
 show some fs[i]=some (fs[i]?.getD 0)
 rw[List.getElem?_eq_getElem hi];rfl
have lF:∀ i,i<fs.length→jc (F i) 200:=fun i hi=>by
 have e:=hF i hi
 rw[List.getElem?_eq_getElem hi] at e
 rw[← Option.some.inj e]
 exact (ziq (lf _ (List.getElem_mem hi))).mono (by omega)
have ls:∀ k,k≤fs.length→jc (sgR F k) 50000:=fun k hk=>(zyr (F:=F) (c:=200) k (fun i hi=>lF i (by omega))).mono (by
 have:k*(200+1)≤201*201:=Nat.mul_le_mul (by omega) (Nat.le_refl _)
 omega)
have hneg:∀ m,m<fs.length→(F m).num<0→z=1:=fun m hm h=>by
 rw[hz,if_pos]
 refine List.any_eq_true.2 ⟨fs[m],List.getElem_mem hm,?_⟩
 have e:=hF m hm
 rw[List.getElem?_eq_getElem hm] at e
 rw[Option.some.inj e]
 exact decide_eq_true h
have hpos:(∀ m,m<fs.length→0≤(F m).num)→z=if sgR F fs.length=((1:Int):Rat) then 0 else 10:=fun h=>by
 rw[hz,if_neg,zvs,← hFd]
 ·rfl
 ·intro ha
  obtain⟨f,hf,hlt⟩:=List.any_eq_true.1 ha
  obtain⟨m,hm,rfl⟩:=List.mem_iff_getElem.1 hf
  have e:=hF m hm
  rw[List.getElem?_eq_getElem hm] at e
  rw[Option.some.inj e] at hlt
  have:=h m hm
  have:=of_decide_eq_true hlt
  omega
have SM:=af (fun W (hb:But [] w W)=>zsz v fs F W (hr.but hb) hF h1 (by omega) (fun i hi=>(lF i hi).mono (by omega)) (fun k hk=>(ls k hk).mono (by omega)))
have I1:=af (fun W=>zls 1 W (by omega) (by omega))
have CM:=af (fun W x y (hx:zo W x (sgR F fs.length)) (hy:zo W y ((1:Int):Rat))=>qip x y _ _ W hx hy ((ls _ (Nat.le_refl _)).mono (by omega)) ((jc.int (by decide)).mono (by omega)))
obtain⟨a,cap,rfl,hcap,hV⟩:=zck hr hF
have HV:=af hV
have HL:=af lF
have HN:=af hneg
have HP:=af hpos
clear hV hr hF lf lF ls hneg hpos hz hFd
obtain⟨n,hnn⟩:∃ n,n=fs.length:=⟨_,rfl⟩
rw[← hnn] at h1 hn hcap HV HL HN HP SM CM
rw[← hnn]
clear hnn
go_enter func98,ntmps98
go_wp2
go_loopw [13] (fun i wr=>∃ k:Nat,k≤n∧i=.int .i64 (k:Int)∧Hid ((∀ m,m<k→0≤(F m).num)∧But [] w wr)) (fun i _=>n-(intOf i).toNat)
case atStart=>exact⟨0,Nat.zero_le _,rfl,fun m hm=>absurd hm (by omega),But.refl _ _⟩
case round =>(
obtain⟨k,hk,rfl,HI⟩:=hrel
rename World=>wr
by_cases hlt:k<n
·(
obtain⟨b,off,g,rfl,c0,hT⟩:=ae HV wr (ae HI).2 k hlt
obtain⟨s,hs⟩:∃ s,s=(F k).num.sign:=⟨_,rfl⟩
have SG:=af (zta g _ wr hT s hs ((ae HL k hlt).mono (by omega)))
clear hT
by_cases hneg:(F k).num<0
·(
have p1:s<0:=by rw[hs,Int.sign_eq_neg_one_of_neg hneg];decide
obtain rfl:=ae HN k hlt hneg
clear hs hneg HN HP
go_wp2_with fail
refine (ae SG).mono ?_
rintro e w2 ⟨rfl,hb2⟩
have B2:=af ((ae HI).2.trans' hb2)
clear hb2 SG
go_wp2
go_ret
exact⟨rfl,ae B2⟩)
·(
have hnn:0≤(F k).num:=by omega
have p1:0≤s:=by rw[hs];exact Int.sign_nonneg_iff.2 hnn
have NI:Hid (∀ m,m<k+1→0≤(F m).num):=fun m hm=>by
 by_cases e:m=k
 ·rw[e];exact hnn
 ·exact (ae HI).1 m (by omega)
clear hs hneg hnn
go_wp2_with fail
refine (ae SG).mono ?_
rintro e w2 ⟨rfl,hb2⟩
have B2:=af ((ae HI).2.trans' hb2)
clear hb2 SG
go_wp2
exact⟨⟨k+1,by omega,by go_num,ae NI,ae B2⟩,by simp[intOf];omega⟩))
·(
obtain rfl:k=n:=by omega
have hz2:=af (ae HP (ae HI).1)
have B0:=af (ae HI).2
clear HP HN HI
go_wp2_with fail
refine (ae SM _ (ae B0)).mono ?_
rintro e w2 ⟨g2,rfl,h2,hb2⟩
have S2:=af (And.intro h2 ((ae B0).trans' hb2))
clear h2 hb2 B0 SM
go_wp2_with fail
refine (ae I1 _).mono ?_
rintro e w3 ⟨g3,rfl,h3,hb3⟩
have C3:=af (ae CM _ _ _ ((ae S2).1.but hb3) h3)
have B3:=af ((ae S2).2.trans' hb3)
clear h3 hb3 S2 I1 CM
go_wp2_with fail
refine (ae C3).mono ?_
rintro e w4 ⟨r,rfl,-,-,hr0,hb4⟩
have B4:=af ((ae B3).trans' hb4)
clear hb4 B3 C3
by_cases h0:sgR F k=((1:Int):Rat)
·(
have hr1:r=0:=hr0.2 h0
have hz0:z=0:=by rw[ae hz2,if_pos h0]
subst hr1 hz0
clear hr0 h0 hz2
go_wp2
go_ret
exact⟨rfl,ae B4⟩)
·(
have hr1:(r != 0)=true:=by simpa using fun h=>h0 (hr0.1 h)
have hz0:z=10:=by rw[ae hz2,if_neg h0]
subst hz0
clear hr0 h0 hz2
go_wp2
go_ret
exact⟨rfl,ae B4⟩))))
theorem zmv (v:Value) (fs:List Rat) (w:World) (c:Nat) (hr:za w v fs) (hn:fs.length≤1000) (lf:∀ f ∈ fs,Len f c) (hc:c≤100) :
  Calls prog 17 #[v] w fun e w'=>e=.returned (.int .i64 (jo fs))∧But [] w w':=by(
obtain⟨z,hz⟩:∃ z,z=jo fs:=⟨_,rfl⟩
rw[← hz]
have HZ:=af hz
have bw:But [] w w:=But.refl _ _
have SH:Hid (1≤fs.length→fs.length≤201→Calls prog 98 #[v,.int .i64 ((fs.length:Nat):Int)] w fun e w'=>e=.returned (.int .i64 z)∧But [] w w'):=fun h1 h2=>zol v fs w c hr h1 h2 lf hc z (by rw[hz];unfold jo;rw[if_neg (by omega)])
have H4:Hid (fs.length<1∨201<fs.length→z=4):=fun h=>by rw[hz];unfold jo;rw[if_pos h]
obtain⟨a,cap,rfl,-⟩:=hr.open
clear hz HZ hr lf
generalize fs.length=n at *
by_cases h1:n<1
·(
obtain rfl:=ae H4 (.inl h1)
clear SH H4
go_enter func17,ntmps17
go_wp2
go_ret
exact⟨rfl,bw⟩)
·(
by_cases h2:201<n
·(
obtain rfl:=ae H4 (.inr h2)
clear SH H4
go_enter func17,ntmps17
go_wp2
go_ret
exact⟨rfl,bw⟩)
·(
have h3:¬ n > 201:=h2
have S:=af (ae SH (by omega) (by omega))
clear SH H4
go_enter func17,ntmps17
go_wp2_with fail
refine (ae S).mono ?_
rintro e w2 ⟨rfl,hb2⟩
have B2:=af hb2
clear hb2 S
go_wp2
go_ret
exact⟨rfl,ae B2⟩)))
theorem za.take {w:World} {a:Option Addr} {n cap:Nat} {fs:List Rat} (h:za w (.slice a n cap) fs) (k:Nat) (hk:k≤n):za w (.slice a k cap) (fs.take k):=by(
obtain⟨a',cap',e,h1,h2⟩:=h
simp only[Value.slice.injEq] at e
obtain⟨rfl,rfl,rfl⟩:=e
refine⟨a,cap,by rw[List.length_take,Nat.min_eq_left hk],by rw[List.length_take];omega,fun i f hi=>h2 i f ?_⟩
rw[List.getElem?_take] at hi
split at hi
·exact hi
·exact absurd hi (by simp))
theorem jc.qnx {f g:Rat} {m n:Nat} (hf:jc f m) (hg:jc g n) (h0:g.num≠0):jc (f/g) (m+n):=by(
have hg0:g≠0:=fun e=>h0 (by rw[e];rfl)
have hq:(f/g)*g=f:=Rat.div_mul_cancel hg0
have e1:=zlu f
have e2:=zlu g
have e3:=zlu (f/g)
have hfd:(((f.den:Nat):Int):Rat)≠0:=fun e=>by
 have:=f.den_nz
 have h2:(((f.den:Nat):Int):Rat)=((0:Int):Rat):=e
 have:=Rat.intCast_inj.1 h2
 omega
refine zro (f/g) (f.num*(g.den:Int)) (g.num*(f.den:Int)) (m+n) (Int.mul_ne_zero h0 (by have:=f.den_nz;omega)) ?_ (ji _ _ _ _ hf.1 (by rw[Int.natAbs_natCast];exact hg.2)) (by rw[Nat.add_comm];exact ji _ _ _ _ hg.1 (by rw[Int.natAbs_natCast];exact hf.2))
have:(((f/g).num*(g.num*(f.den:Int)):Int):Rat)=((f.num*(g.den:Int)*((f/g).den:Int):Int):Rat):=by
 rw[Rat.intCast_mul,Rat.intCast_mul,Rat.intCast_mul,Rat.intCast_mul,← e1,← e2,← e3]
 generalize f/g=x at *
 grind
exact Rat.intCast_inj.1 this)
def qfx:Value→Nat
 | .slice _ n _=>n
 | _=>0
theorem za.vals {w:World} {b off n cap:Nat} {fs:List Rat} (h:za w (.slice (some ⟨b,off,none⟩) n cap) fs):∃ us:List Value,us.length=n∧(∀ i u,us[i]? = some u→w.cell? ⟨b,off+i,none⟩=some u∧u.oneCell'=true)∧∀ (i:Nat) (f:Rat),fs[i]? = some f→∃ u,us[i]? = some u∧zhc w u f:=by(
refine⟨(List.range n).map (fun i=>(w.cell? ⟨b,off+i,none⟩).getD undef),by simp,fun i u hu=>?_,fun i f hi=>?_⟩
·(
have hin:i<n:=by
 have:=(List.getElem?_eq_some_iff.1 hu).1
 simpa using this
rw[List.getElem?_map,List.getElem?_range hin,Option.map_some] at hu
obtain⟨-,b2,o2,g,f,e,hc,-⟩:=h.at i hin
simp only[Option.some.injEq,Addr.mk.injEq] at e
obtain⟨rfl,rfl,-⟩:=e
rw[hc] at hu ⊢
simp only[Option.getD_some,Option.some.injEq] at hu
subst hu
exact⟨rfl,rfl⟩)
·(
obtain⟨a',cap',e,h1,h2⟩:=h
simp only[Value.slice.injEq] at e
obtain⟨rfl,rfl,rfl⟩:=e
obtain⟨b2,o2,u,e2,hc,hp⟩:=h2 i f hi
simp only[Option.some.injEq,Addr.mk.injEq] at e2
obtain⟨rfl,rfl,-⟩:=e2
have hin:=(List.getElem?_eq_some_iff.1 hi).1
refine⟨u,?_,hp⟩
rw[List.getElem?_map,List.getElem?_range hin,Option.map_some,hc]
rfl))
theorem qcc (w V:World) (g b off n cap:Nat) (fs:List Rat) (hr:za w (.slice (some ⟨b,off,none⟩) n cap) fs) (hV:But [] w V) (hown:V.ownsRow w.heap.size 37 1 (.slice (some ⟨g,0,none⟩) 0 0) 0 []) (h0:0<n) (hn:n≤1000) :
  ∃ g' c' w',(Builtin.append_ #[42,42] 42 #[.slice (some ⟨g,0,none⟩) 0 0,.slice (some ⟨b,off,none⟩) n cap]).run prog V=.ok (.slice (some ⟨g',0,none⟩) n c') w'∧n≤c'∧c'≤maxLen∧za w' (.slice (some ⟨g',0,none⟩) n c') fs∧But [] w w':=by(
obtain⟨i0,hi,hz0,hz1,hz2⟩:=zit
obtain⟨us,hl,hus,hval⟩:=hr.vals
have hN:n=fs.length:=(hr.at 0 h0).1
obtain⟨v',w',hrun,ho,hg,-⟩:=run_append_own (P:=prog) V w.heap.size 42 42 37 i0 _ 1 8 underlying42 hi hz0 hz1 hz2 rfl (by decide) (.slice (some ⟨g,0,none⟩) 0 0) 0 [] hown ⟨b,off,none⟩ n cap us (by rw[hl,Nat.mul_one]) (fun j u hj=>by
  have e:(⟨b,off,none⟩:Addr).add j=⟨b,off+j,none⟩:=by
   by_cases hz:j=0
   ·simp[Addr.add,hz]
   ·simp[Addr.add,hz]
  rw[e]
  exact hV.ag (hus j u hj).1 (by simp)) (fun u hu=>by
  obtain⟨j,hj,rfl⟩:=List.mem_iff_getElem.1 hu
  exact (hus j _ (List.getElem?_eq_getElem hj)).2) (by unfold maxLen;omega) (by omega) hV.size
have hB:But [] w w':=ou hV hown (Nat.le_refl _) hg
rw[Nat.zero_add,List.nil_append] at ho
rcases ho.2 with ⟨-,e⟩|⟨g',c',cur,e,h1,h2,h3,h4,-⟩
·omega
·(
subst e
refine⟨g',c',w',hrun,h3,h4,⟨_,c',by rw[hN],by omega,fun i f hi=>?_⟩,hB⟩
obtain⟨u,hu,g2,rfl,hp⟩:=hval i f hi
have hc:=ho.cells (g:=g') rfl i _ hu
have ea:(⟨g',0,none⟩:Addr).add i=⟨g',0+i,none⟩:=by
 by_cases hz:i=0
 ·simp[Addr.add,hz]
 ·simp[Addr.add,hz]
rw[ea] at hc
exact⟨g',0,_,rfl,hc,g2,rfl,hp.but hB⟩))
theorem wu (v:Value) (fs:List Rat) (F:Nat→Rat) (m:Nat) (w:World) (hr:za w v fs) (hF:∀ i,i<fs.length→fs[i]? = some (F i)) (hn:fs.length≤1000) (lf:∀ i,i<fs.length→jc (F i) 1000000) (hm:m<fs.length) (h1:m=0∨(F m).num≠0) (h2:∀ j,m<j→j<fs.length→(F j).num=0) :
  Calls prog 20 #[v] w fun e w'=>∃ v',e=.returned v'∧za w' v' (fs.take (m+1))∧But [] w w':=by(
obtain⟨a,cap0,rfl,hcap0⟩:=hr.open
obtain⟨b,off,ha⟩:∃ b off,a=some ⟨b,off,none⟩:=by
 obtain⟨-,b,off,g,f,h3,-⟩:=hr.at 0 (by omega)
 exact⟨b,off,h3⟩
subst ha
have CP:=af (fun V g (hV:But [] w V) ho=>qcc w V g b off fs.length cap0 fs hr hV ho (by omega) hn)
have TK:=af (fun V g c (h:za V (.slice (some ⟨g,0,none⟩) fs.length c) fs)=>h.take (m+1) hm)
have SG:=af (fun (k:Nat) (hk:k<fs.length) W x (hx:zo W x (F k))=>zta x _ W hx (F k).num.sign rfl ((lf k hk).mono (by omega)))
have GE:=af (fun V g c i (h:za V (.slice (some ⟨g,0,none⟩) fs.length c) fs) (hi:i<fs.length)=>show ∃ x,V.cell? ⟨g,i,none⟩=some (.pointer (some ⟨x,0,none⟩))∧zo V x (F i) by
 obtain⟨-,b,off,x,f,h3,h4,h5,h6⟩:=h.at i hi
 simp only[Option.some.injEq,Addr.mk.injEq] at h3
 obtain⟨rfl,rfl,-⟩:=h3
 rw[hF i hi] at h5
 obtain rfl:=Option.some.inj h5
 rw[Nat.zero_add] at h4
 exact⟨x,h4,h6⟩)
have HZ:=af h2
have HO:=af h1
clear hr hF lf h1 h2
obtain⟨gs,hgs⟩:∃ gs,gs=fs.take (m+1):=⟨_,rfl⟩
rw[← hgs] at TK
rw[← hgs]
clear hgs
obtain⟨n,hnn⟩:∃ n,n=fs.length:=⟨_,rfl⟩
rw[← hnn] at hn hm hcap0 CP TK SG GE HZ
rw[← hnn]
clear hnn
have bV:But [] w (w.alloc (.cells #[] 37)):=(But.refl _ _).alloc _
have hown:(w.alloc (.cells #[] 37)).ownsRow w.heap.size 37 1 (.slice (some ⟨w.heap.size,0,none⟩) 0 0) 0 []:=⟨rfl,.inr ⟨w.heap.size,0,#[],rfl,Nat.le_refl _,by show (w.heap.push _)[w.heap.size]? = some _;exact Array.getElem?_push_size,by omega,by unfold maxLen;omega,rfl,rfl⟩⟩
obtain⟨g',c',w',hr,hc1,hc2,hrat,hb⟩:=ae CP _ w.heap.size bV hown
have HR:=af hr
have HRA:=af hrat
have HB0:=af hb
clear hr hrat hb bV hown CP hcap0 hc2
go_enter func20,ntmps20
go_wp2_with (at_builtin;refine qp rfl _ _ 42 42 rfl _ _ (.slice (some ⟨g',0,none⟩) n c') w' rfl rfl (ae HR) ?_)
clear HR
go_loopw [0] (fun sv wr=>∃ j:Nat,m+1≤j∧j≤n∧sv=.slice (some ⟨g',0,none⟩) j c'∧Hid (But [] w' wr)) (fun sv _=>qfx sv)
case atStart=>exact⟨n,hm,Nat.le_refl _,rfl,But.refl _ _⟩
case round =>(
obtain⟨j,hj1,hj2,rfl,HB⟩:=hrel
rename World=>wr
obtain⟨i,hi⟩:∃ i,i+1=j:=⟨j-1,by omega⟩
have hjI:(j:Int)-1=(i:Int):=by omega
have hin:i<n:=by omega
have hij:i<j:=by omega
have hic:i≤c':=by omega
obtain⟨x,hx,hxr⟩:=ae GE wr g' c' i ((ae HRA).but (ae HB)) hin
obtain⟨sg,hsg⟩:∃ sg,sg=(F i).num.sign:=⟨_,rfl⟩
have SGi:=ae SG i hin wr x hxr
rw[← hsg] at SGi
have SGH:=af SGi
have HI:=af hi
have HSG:=af hsg
clear SGi hxr hi hsg
by_cases hlast:j=m+1
·(
by_cases hm0:m=0
·(
have hj3:¬ (j:Int) > 1:=by omega
have FIN:=af (And.intro (ae TK wr g' c' ((ae HRA).but (ae HB))) ((ae HB0).trans' (ae HB)))
rw[← hlast] at FIN
clear hlast hm0
go_wp2
go_ret
exact⟨_,rfl,(ae FIN).1,(ae FIN).2⟩)
·(
have hj3:(j:Int) > 1:=by omega
have hs0:(sg==0)=false:=beq_eq_false_iff_ne.2 (by
 rw[ae HSG]
 have e:i=m:=by have:=ae HI;omega
 rw[e]
 intro h
 exact (ae HO).elim hm0 (fun h2=>h2 (Int.sign_eq_zero_iff_zero.1 h)))
have HL:=af hlast
clear hlast hm0
go_wp2_with fail
refine (ae SGH).mono ?_
rintro e w2 ⟨rfl,hb2⟩
have FIN:=af (And.intro (ae TK w2 g' c' (((ae HRA).but (ae HB)).but hb2)) (((ae HB0).trans' (ae HB)).trans' hb2))
rw[← ae HL] at FIN
clear hb2 SGH
go_wp2
go_ret
exact⟨_,rfl,(ae FIN).1,(ae FIN).2⟩))
·(
have hj3:(j:Int) > 1:=by omega
have hs0:(sg==0)=true:=by
 rw[ae HSG,ae HZ i (by have:=ae HI;omega) hin]
 rfl
have hmi:m+1≤i:=by have:=ae HI;omega
go_wp2_with fail
refine (ae SGH).mono ?_
rintro e w2 ⟨rfl,hb2⟩
have NB:=af ((ae HB).trans' hb2)
clear hb2 SGH hx
go_wp2
exact⟨⟨i,hmi,by omega,rfl,ae NB⟩,by simp[qfx];omega⟩)))
end Go.Proofs.YtpmjeclpkahkmaaGreatDoor
