/- The quotient of a new fraction of the re -/
import Derived.Test.YtagmkkiagjmimaaGreatDoorSEK
import Derived.Test.YtagmkkiagjmimaaGreatDoorSHJr
import Derived.Test.YtagmkkiagjmimaaGreatDoorSHPc
namespace Go.Proofs.YtagmkkiagjmimaaGreatDoor
open Go.Proofs.Tryz
open Go.RowKit
set_option maxHeartbeats 16000000
set_option maxRecDepth 100000
set_option linter.unusedVariables false
theorem zqu (xb yb:Nat) (g:Rat) (w:World) (hx:wh w xb) (hy:zi w yb g) (lg:qw g 2000000) (hg0:g.num≠0) :
   Calls prog 26 #[.pointer (some ⟨xb,0,none⟩),.pointer (some ⟨yb,0,none⟩)] w fun e w'=>∃ zb,e=.returned (.pointer (some ⟨zb,0,none⟩))∧But [] w w'∧zi w' zb 0∧w.heap.size≤zb:=by(
 have hgd:0<g.den:=Nat.pos_of_ne_zero g.den_nz
 have hQ0:(1:Int)*g.num≠0:=by rw[Int.one_mul];exact hg0
 obtain⟨e1,e2⟩:=zdc (0*(g.den:Int)) ((1:Int)*g.num) hQ0 0 (by show (0:Int)*_=_;rw[Int.zero_mul,Int.zero_mul,Int.zero_mul])
 obtain⟨W0,hW0⟩:∃ W0,W0=w.alloc (.cells #[.bool false,.slice none 0 0,.bool false,.slice none 0 0] 113):=⟨_,rfl⟩
 have hs:=zaw w 113
 have hbw:But [] w W0:=by rw[hW0];exact (But.refl _ _).alloc _
 rw[← hW0] at hs
 obtain⟨lg1,lg2⟩:=lg
 have QU:=af (qbh w.heap.size xb yb g.num g.den W0 hs.1 hs.2 (hx.but hbw) (zx.but hy hbw) hgd (by omega) (by omega) _ _ rfl rfl (by rw[Int.zero_mul];exact Nat.lt_of_le_of_lt (ji _ (by decide)) (by omega)) (by rw[Int.one_mul];omega) hQ0 (0:Rat).num ((0:Rat).den:Int) e1 e2)
 obtain⟨s,hss⟩:∃ s,s=g.num.sign:=⟨_,rfl⟩
 have hs0:(s==0)=false:=beq_eq_false_iff_ne.2 (by rw[hss];exact fun h=>hg0 (Int.sign_eq_zero_iff_zero.1 h))
 have SG:=af (zdz yb g.num (g.den:Int) w hy s hss (by omega))
 have HW0:=af hW0
 have HBW:=af hbw
 clear hW0 hbw hs e1 e2 hQ0 lg1 lg2 hx hy hgd hss hg0
 go_enter func26,ntmps26
 go_wp2_with fail
 refine (ae SG).mono ?_
 rintro e w1 ⟨rfl,hw⟩
 obtain rfl:=hw.symm
 clear hw
 go_wp2_with fail
 rw[← ae HW0]
 refine (ae QU).mono ?_
 rintro e w1 ⟨rfl,h1,h2⟩
 have FIN:=af (And.intro ((ae HBW).trans h1 (by simp)) h2)
 clear h1 h2 QU
 go_wp2
 go_ret
 exact⟨w.heap.size,rfl,(ae FIN).1,(ae FIN).2,Nat.le_refl _⟩)
theorem zfi {w:World} {v:Value} {fs:List Rat} {F:Nat→Rat} (hr:jl w v fs) (hF:∀ i,i<fs.length→fs[i]? = some (F i)):∃ a cap,v=.slice a fs.length cap∧fs.length≤cap∧∀ W,But [] w W→∀ i,i<fs.length→∃ b off g,a=some ⟨b,off,none⟩∧W.cell? ⟨b,off+i,none⟩=some (.pointer (some ⟨g,0,none⟩))∧zi W g (F i):=by(
 obtain⟨a,cap,e,hc⟩:=hr.open
 refine⟨a,cap,e,hc,fun W hb i hi=>?_⟩
 have h0:=hr.but hb
 rw[e] at h0
 obtain⟨-,b,off,g,f,h1,h2,h3,h4⟩:=h0.at i hi
 rw[hF i hi] at h3
 obtain rfl:=Option.some.inj h3
 exact⟨b,off,g,h1,h2,h4⟩)
theorem qfq (xb yb:Nat) (f g q:Rat) (w:World) (hx:zsr w xb f) (hy:zi w yb g) (lf:qw f 2000000) (lg:qw g 2000000) (hg0:g.num≠0) (hq:q*g=f) :
   Calls prog 26 #[.pointer (some ⟨xb,0,none⟩),.pointer (some ⟨yb,0,none⟩)] w fun e w'=>∃ zb,e=.returned (.pointer (some ⟨zb,0,none⟩))∧zi w' zb q∧But [] w w':=by(
 rcases hx with h|⟨h0,h⟩
 ·exact qfr xb yb f g q w h hy lf lg hg0 hq
 ·(
 have hq0:q=0:=by
  have hne:g≠0:=fun e=>hg0 (by rw[e];rfl)
  rw[h0] at hq
  rcases Rat.mul_eq_zero.1 hq with h | h
  ·exact h
  ·exact absurd h hne
 rw[hq0]
 exact (zqu xb yb g w h hy lg hg0).mono fun e w' ⟨zb,he,hb,hr,_⟩=>⟨zb,he,hr,hb⟩))
theorem zvv (xb yb:Nat) (f g:Rat) (w:World) (hx:zi w xb f) (hy:zi w yb g) (lf:qw f 2000000) (lg:qw g 2000000) :
   Calls prog 22 #[.pointer (some ⟨xb,0,none⟩),.pointer (some ⟨yb,0,none⟩)] w fun e w'=>∃ c,e=.returned (.int .i64 c)∧(c<0↔f<g)∧(0<c↔g<f)∧(c=0↔f=g)∧But [] w w':=by(
 have hfd:0<f.den:=Nat.pos_of_ne_zero f.den_nz
 have hgd:0<g.den:=Nat.pos_of_ne_zero g.den_nz
 obtain⟨lf1,lf2⟩:=lf
 obtain⟨lg1,lg2⟩:=lg
 have d1:(wd 4294967296 ((f.den:Nat):Int).natAbs).length≤2000000:=by rw[Int.natAbs_natCast];exact lf2
 have d2:(wd 4294967296 ((g.den:Nat):Int).natAbs).length≤2000000:=by rw[Int.natAbs_natCast];exact lg2
 have p1:=jy f.num (g.den:Int) _ _ lf1 d2
 have p2:=jy g.num (f.den:Int) _ _ lg1 d1
 have l1:=Rat.lt_iff (a:=f) (b:=g)
 have l2:=Rat.lt_iff (a:=g) (b:=f)
 have e0:f=g↔¬ f<g∧¬ g<f:=⟨fun h=>by rw[h];exact⟨Rat.lt_irrefl,Rat.lt_irrefl⟩,fun ⟨h1,h2⟩=>Rat.le_antisymm (Rat.not_lt.1 h2) (Rat.not_lt.1 h1)⟩
 refine (zqw xb yb f.num g.num f.den g.den w hx hy hfd hgd (by omega) (by omega) (by omega) (by omega) _ _ rfl rfl (by omega) (by omega)).mono ?_
 rintro e w' ⟨rfl,hb⟩
 refine⟨_,rfl,?_,?_,?_,hb⟩
 ·rw[l1];unfold eu;split
  ·omega
  ·split <;> omega
 ·rw[l2];unfold eu;split
  ·omega
  ·split <;> omega
 ·rw[e0,l1,l2];unfold eu;split
  ·omega
  ·split <;> omega)
theorem zvm (fs:List Rat):∀ k,k≤fs.length→zby (fs.take k)=sgR (fun j=>fs[j]?.getD 0) k
 | 0,_=>by rw[List.take_zero];rfl
 | k+1,h=>by
  rw[zeq fs k (by omega),zvm fs k (by omega)]
  rfl
theorem ztd (fs:List Rat):zby fs=sgR (fun j=>fs[j]?.getD 0) fs.length:=by
 have:=zvm fs fs.length (Nat.le_refl _)
 rwa [List.take_length] at this
theorem zqq (v:Value) (fs:List Rat) (F:Nat→Rat) (w:World) (hr:jl w v fs) (hF:∀ i,i<fs.length→fs[i]? = some (F i)) (h1:1≤fs.length) (hn:fs.length≤1000) (lf:∀ i,i<fs.length→qw (F i) 2000000) (ls:∀ k,k≤fs.length→qw (sgR F k) 2000000) :
   Calls prog 108 #[v] w fun e w'=>∃ zb,e=.returned (.pointer (some ⟨zb,0,none⟩))∧zi w' zb (sgR F fs.length)∧But [] w w':=by(
 obtain⟨a,cap,rfl,hcap,hV⟩:=zfi hr hF
 have HV:=af hV
 have HL:=af lf
 have HS:=af ls
 clear hV hr hF lf ls
 generalize fs.length=n at *
 have hb0:=zzx w 113
 have bW:But [] w (w.alloc (.cells #[.bool false,.slice none 0 0,.bool false,.slice none 0 0] 113)):=(But.refl _ _).alloc _
 obtain⟨W,hW⟩:∃ W,W=w.alloc (.cells #[.bool false,.slice none 0 0,.bool false,.slice none 0 0] 113):=⟨_,rfl⟩
 rw[← hW] at hb0 bW
 obtain⟨g0,hg0⟩:∃ g,g=w.heap.size:=⟨_,rfl⟩
 rw[← hg0] at hb0
 have I0:Hid (zsr W g0 (sgR F 0)∧(0<0→zi W g0 (sgR F 0))∧But [] w W):=⟨.inr ⟨rfl,hb0⟩,fun h=>absurd h (by omega),bW⟩
 have HW:=af hW
 clear hW hb0 bW
 go_enter func108,ntmps108
 go_wp2
 rw[← ae HW,← hg0]
 clear HW hg0
 go_loopw [3,9] (fun p i wr=>∃ (k pb:Nat),k≤n∧i=.int .i64 (k:Int)∧p=.pointer (some ⟨pb,0,none⟩)∧Hid (zsr wr pb (sgR F k)∧(0<k→zi wr pb (sgR F k))∧But [] w wr)) (fun _ i _=>n-(intOf i).toNat)
 case atStart=>exact⟨0,g0,Nat.zero_le _,rfl,rfl,ae I0⟩
 case round =>(
 obtain⟨k,pb,hk,rfl,rfl,HI⟩:=hrel
 rename World=>wr
 clear I0
 by_cases hlt:k<n
 ·(
 obtain⟨b,off,g,rfl,c0,hT⟩:=ae HV wr (ae HI).2.2 k hlt
 have AD:=af (qfs pb g (sgR F k) (F k) wr (ae HI).1 hT (ae HS k (by omega)) (ae HL k hlt))
 clear hT
 go_wp2_with fail
 refine (ae AD).mono ?_
 rintro e w2 ⟨g2,rfl,h2,hb2⟩
 have NS:Hid (zsr w2 g2 (sgR F (k+1))∧(0<k+1→zi w2 g2 (sgR F (k+1)))∧But [] w w2):=⟨.inl h2,fun _=>h2,(ae HI).2.2.trans' hb2⟩
 clear h2 hb2 AD
 go_wp2
 exact⟨⟨k+1,g2,by omega,by go_num,rfl,ae NS⟩,by simp[intOf];omega⟩)
 ·obtain rfl:k=n:=by omega
  go_wp2
  go_ret
  exact⟨pb,rfl,(ae HI).2.1 (by omega),(ae HI).2.2⟩))
theorem zly (v:Value) (fs:List Rat) (w:World) (c:Nat) (hr:jl w v fs) (h1:1≤fs.length) (hn:fs.length≤201) (lf:∀ f ∈ fs,Len f c) (hc:c≤100) (z:Int) (hz:z=if fs.any (fun f=>decide (f.num<0)) then 1 else if zby fs=1 then 0 else 10) :
   Calls prog 95 #[v,.int .i64 ((fs.length:Nat):Int)] w fun e w'=>e=.returned (.int .i64 z)∧But [] w w':=by(
 obtain⟨F,hFd⟩:∃ F:Nat→Rat,F=fun j=>fs[j]?.getD 0:=⟨_,rfl⟩
 have hF:∀ i,i<fs.length→fs[i]? = some (F i):=fun i hi=>by
  rw[hFd,List.getElem?_eq_getElem hi]
  show some fs[i]=some (fs[i]?.getD 0)
  rw[List.getElem?_eq_getElem hi];rfl
 have lF:∀ i,i<fs.length→qw (F i) 200:=fun i hi=>by
  have e:=hF i hi
  rw[List.getElem?_eq_getElem hi] at e
  rw[← Option.some.inj e]
  exact (zef (lf _ (List.getElem_mem hi))).mono (by omega)
 have ls:∀ k,k≤fs.length→qw (sgR F k) 50000:=fun k hk=>(zoy (F:=F) (c:=200) k (fun i hi=>lF i (by omega))).mono (by
  have:k*(200+1)≤201*201:=Nat.mul_le_mul (by omega) (Nat.le_refl _)
  omega)
 have hneg:∀ m,m<fs.length→(F m).num<0→z=1:=fun m hm h=>by
  rw[hz,if_pos]
  refine List.any_eq_true.2 ⟨fs[m],List.getElem_mem hm,?_⟩
  have e:=hF m hm
  rw[List.getElem?_eq_getElem hm] at e
  rw[Option.some.inj e]
  exact decide_eq_true h
 have hpos:(∀ m,m<fs.length→0≤(F m).num)→z=if sgR F fs.length=((1:Int):Rat) then 0 else 10:=fun h=>by
  rw[hz,if_neg,ztd,← hFd]
  ·rfl
  ·intro ha
   obtain⟨f,hf,hlt⟩:=List.any_eq_true.1 ha
   obtain⟨m,hm,rfl⟩:=List.mem_iff_getElem.1 hf
   have e:=hF m hm
   rw[List.getElem?_eq_getElem hm] at e
   rw[Option.some.inj e] at hlt
   have:=h m hm
   have:=of_decide_eq_true hlt
   omega
 have SM:=af (fun W (hb:But [] w W)=>zqq v fs F W (hr.but hb) hF h1 (by omega) (fun i hi=>(lF i hi).mono (by omega)) (fun k hk=>(ls k hk).mono (by omega)))
 have I1:=af (fun W=>zbk 1 W (by omega) (by omega))
 have CM:=af (fun W x y (hx:zi W x (sgR F fs.length)) (hy:zi W y ((1:Int):Rat))=>zvv x y _ _ W hx hy ((ls _ (Nat.le_refl _)).mono (by omega)) ((qw.int (by decide)).mono (by omega)))
 obtain⟨a,cap,rfl,hcap,hV⟩:=zfi hr hF
 have HV:=af hV
 have HL:=af lF
 have HN:=af hneg
 have HP:=af hpos
 clear hV hr hF lf lF ls hneg hpos hz hFd
 obtain⟨n,hnn⟩:∃ n,n=fs.length:=⟨_,rfl⟩
 rw[← hnn] at h1 hn hcap HV HL HN HP SM CM
 rw[← hnn]
 clear hnn
 go_enter func95,ntmps95
 go_wp2
 go_loopw [13] (fun i wr=>∃ k:Nat,k≤n∧i=.int .i64 (k:Int)∧Hid ((∀ m,m<k→0≤(F m).num)∧But [] w wr)) (fun i _=>n-(intOf i).toNat)
 case atStart=>exact⟨0,Nat.zero_le _,rfl,fun m hm=>absurd hm (by omega),But.refl _ _⟩
 case round =>(
 obtain⟨k,hk,rfl,HI⟩:=hrel
 rename World=>wr
 by_cases hlt:k<n
 ·(
 obtain⟨b,off,g,rfl,c0,hT⟩:=ae HV wr (ae HI).2 k hlt
 obtain⟨s,hs⟩:∃ s,s=(F k).num.sign:=⟨_,rfl⟩
 have SG:=af (qbc g _ wr hT s hs ((ae HL k hlt).mono (by omega)))
 clear hT
 by_cases hneg:(F k).num<0
 ·(
 have p1:s<0:=by rw[hs,Int.sign_eq_neg_one_of_neg hneg];decide
 obtain rfl:=ae HN k hlt hneg
 clear hs hneg HN HP
 go_wp2_with fail
 refine (ae SG).mono ?_
 rintro e w2 ⟨rfl,hb2⟩
 have B2:=af ((ae HI).2.trans' hb2)
 clear hb2 SG
 go_wp2
 go_ret
 exact⟨rfl,ae B2⟩)
 ·(
 have hnn:0≤(F k).num:=by omega
 have p1:0≤s:=by rw[hs];exact Int.sign_nonneg_iff.2 hnn
 have NI:Hid (∀ m,m<k+1→0≤(F m).num):=fun m hm=>by
  by_cases e:m=k
  ·rw[e];exact hnn
  ·exact (ae HI).1 m (by omega)
 clear hs hneg hnn
 go_wp2_with fail
 refine (ae SG).mono ?_
 rintro e w2 ⟨rfl,hb2⟩
 have B2:=af ((ae HI).2.trans' hb2)
 clear hb2 SG
 go_wp2
 exact⟨⟨k+1,by omega,by go_num,ae NI,ae B2⟩,by simp[intOf];omega⟩))
 ·(
 obtain rfl:k=n:=by omega
 have hz2:=af (ae HP (ae HI).1)
 have B0:=af (ae HI).2
 clear HP HN HI
 go_wp2_with fail
 refine (ae SM _ (ae B0)).mono ?_
 rintro e w2 ⟨g2,rfl,h2,hb2⟩
 have S2:=af (And.intro h2 ((ae B0).trans' hb2))
 clear h2 hb2 B0 SM
 go_wp2_with fail
 refine (ae I1 _).mono ?_
 rintro e w3 ⟨g3,rfl,h3,hb3⟩
 have C3:=af (ae CM _ _ _ ((ae S2).1.but hb3) h3)
 have B3:=af ((ae S2).2.trans' hb3)
 clear h3 hb3 S2 I1 CM
 go_wp2_with fail
 refine (ae C3).mono ?_
 rintro e w4 ⟨r,rfl,-,-,hr0,hb4⟩
 have B4:=af ((ae B3).trans' hb4)
 clear hb4 B3 C3
 by_cases h0:sgR F k=((1:Int):Rat)
 ·(
 have hr1:r=0:=hr0.2 h0
 have hz0:z=0:=by rw[ae hz2,if_pos h0]
 subst hr1 hz0
 clear hr0 h0 hz2
 go_wp2
 go_ret
 exact⟨rfl,ae B4⟩)
 ·(
 have hr1:(r != 0)=true:=by simpa using fun h=>h0 (hr0.1 h)
 have hz0:z=10:=by rw[ae hz2,if_neg h0]
 subst hz0
 clear hr0 h0 hz2
 go_wp2
 go_ret
 exact⟨rfl,ae B4⟩))))
theorem ztp (v:Value) (fs:List Rat) (w:World) (c:Nat) (hr:jl w v fs) (hn:fs.length≤1000) (lf:∀ f ∈ fs,Len f c) (hc:c≤100) :
   Calls prog 29 #[v] w fun e w'=>e=.returned (.int .i64 (o9 fs))∧But [] w w':=by(
 obtain⟨z,hz⟩:∃ z,z=o9 fs:=⟨_,rfl⟩
 rw[← hz]
 have HZ:=af hz
 have bw:But [] w w:=But.refl _ _
 have SH:Hid (1≤fs.length→fs.length≤201→Calls prog 95 #[v,.int .i64 ((fs.length:Nat):Int)] w fun e w'=>e=.returned (.int .i64 z)∧But [] w w'):=fun h1 h2=>zly v fs w c hr h1 h2 lf hc z (by rw[hz];unfold o9;rw[if_neg (by omega)])
 have H4:Hid (fs.length<1∨201<fs.length→z=4):=fun h=>by rw[hz];unfold o9;rw[if_pos h]
 obtain⟨a,cap,rfl,-⟩:=hr.open
 clear hz HZ hr lf
 generalize fs.length=n at *
 by_cases h1:n<1
 ·(
 obtain rfl:=ae H4 (.inl h1)
 clear SH H4
 go_enter func29,ntmps29
 go_wp2
 go_ret
 exact⟨rfl,bw⟩)
 ·(
 by_cases h2:201<n
 ·(
 obtain rfl:=ae H4 (.inr h2)
 clear SH H4
 go_enter func29,ntmps29
 go_wp2
 go_ret
 exact⟨rfl,bw⟩)
 ·(
 have h3:¬ n > 201:=h2
 have S:=af (ae SH (by omega) (by omega))
 clear SH H4
 go_enter func29,ntmps29
 go_wp2_with fail
 refine (ae S).mono ?_
 rintro e w2 ⟨rfl,hb2⟩
 have B2:=af hb2
 clear hb2 S
 go_wp2
 go_ret
 exact⟨rfl,ae B2⟩)))
def ruE (fs:List Rat) (st inc ys:Int):Int:=if o9 fs≠0 then o9 fs else if ¬ (0≤st∧st≤60∧0≤inc∧inc≤20∧0≤ys∧ys≤16) then 2 else if 41<fs.length then 4 else 0
theorem zqr (v:Value) (fs:List Rat) (st inc ys:Int) (w:World) (c:Nat) (hr:jl w v fs) (hn:fs.length≤1000) (lf:∀ f ∈ fs,Len f c) (hc:c≤100) :
   Calls prog 16 #[.int .i64 st,.int .i64 inc,v,.int .i64 ys] w fun e w'=>e=.returned (.int .i64 (ruE fs st inc ys))∧But [] w w':=by(
 have LC:=af (ztp v fs w c hr hn lf hc)
 obtain⟨z,hz⟩:∃ z,z=ruE fs st inc ys:=⟨_,rfl⟩
 rw[← hz]
 obtain⟨y,hy⟩:∃ y,y=o9 fs:=⟨_,rfl⟩
 rw[← hy] at LC
 have HZ:Hid (z=if y≠0 then y else if ¬ (0≤st∧st≤60∧0≤inc∧inc≤20∧0≤ys∧ys≤16) then 2 else if 41<fs.length then 4 else 0):=by show z=_;rw[hz,hy];rfl
 obtain⟨a,cap,rfl,-⟩:=hr.open
 clear hz hy hr lf
 generalize fs.length=n at *
 by_cases h0:y≠0
 ·(
 obtain rfl:z=y:=by rw[ae HZ,if_pos h0]
 have h1:(z != 0)=true:=by simpa using h0
 clear HZ h0
 go_enter func16,ntmps16
 go_wp2_with fail
 refine (ae LC).mono ?_
 rintro e w2 ⟨rfl,hb2⟩
 have B2:=af hb2
 clear hb2 LC
 go_wp2
 go_ret
 exact⟨rfl,ae B2⟩)
 ·(
 obtain rfl:y=0:=by omega
 have HZ2:Hid (z=if ¬ (0≤st∧st≤60∧0≤inc∧inc≤20∧0≤ys∧ys≤16) then 2 else if 41<n then 4 else 0):=by show z=_;rw[ae HZ,if_neg h0]
 clear HZ h0
 go_enter func16,ntmps16
 go_wp2_with fail
 refine (ae LC).mono ?_
 rintro e w2 ⟨rfl,hb2⟩
 have B2:=af hb2
 clear hb2 LC
 by_cases hr:0≤st∧st≤60∧0≤inc∧inc≤20∧0≤ys∧ys≤16
 ·(
 obtain⟨q1,q2,q3,q4,q5,q6⟩:=hr
 have r1:¬ st<0:=by omega
 have r2:¬ st > 60:=by omega
 have r3:¬ inc<0:=by omega
 have r4:¬ inc > 20:=by omega
 have r5:¬ ys<0:=by omega
 have r6:¬ ys > 16:=by omega
 by_cases hl:41<n
 ·(
 obtain rfl:z=4:=by rw[ae HZ2,if_neg (by simp;omega),if_pos hl]
 clear HZ2
 go_wp2
 go_ret
 exact⟨rfl,ae B2⟩)
 ·(
 obtain rfl:z=0:=by rw[ae HZ2,if_neg (by simp;omega),if_neg hl]
 have r7:¬ n > 41:=hl
 clear HZ2
 go_wp2
 go_ret
 exact⟨rfl,ae B2⟩))
 ·(
 obtain rfl:z=2:=by rw[ae HZ2,if_pos hr]
 clear HZ2
 have hx:st<0∨¬ st<0∧(st > 60∨¬ st > 60∧(inc<0∨¬ inc<0∧(inc > 20∨¬ inc > 20∧(ys<0∨¬ ys<0∧ys > 16)))):=by omega
 clear hr
 rcases hx with h|⟨h1,h|⟨h2,h|⟨h3,h|⟨h4,h|⟨h5,h⟩⟩⟩⟩⟩
 all_goals(
 go_wp2
 go_ret
 exact⟨rfl,ae B2⟩))))
theorem znh (n m:Int) (b:Bool) (hb:b=decide (0≤n∧n≤m)) (w:World):Calls prog 73 #[.int .i64 n,.int .i64 m] w fun e w'=>e=.returned (.bool b)∧But [] w w':=by(
 have bw:But [] w w:=But.refl _ _
 by_cases h1:0≤n
 ·(
 by_cases h2:n≤m
 ·(
 obtain rfl:b=true:=by rw[hb];exact decide_eq_true ⟨h1,h2⟩
 clear hb
 go_enter func73,ntmps73
 go_wp2
 go_ret
 exact⟨rfl,bw⟩)
 ·(
 obtain rfl:b=false:=by rw[hb];exact decide_eq_false (fun h=>h2 h.2)
 clear hb
 go_enter func73,ntmps73
 go_wp2
 go_ret
 exact⟨rfl,bw⟩))
 ·(
 obtain rfl:b=false:=by rw[hb];exact decide_eq_false (fun h=>h1 h.1)
 clear hb
 go_enter func73,ntmps73
 go_wp2
 go_ret
 exact⟨rfl,bw⟩))
def ckR (fs:List Rat) (rng:Bool):Int:=if o9 fs≠0 then o9 fs else if rng=false then 2 else if 41<fs.length then 4 else 0
theorem zlv (va:Value) (fs:List Rat) (c:Nat) (rng:Bool) (w:World) (ha:aq w va fs) (hn:fs.length≤1000) (lf:∀ f ∈ fs,Len f c) (hc:c≤100) :
   Calls prog 74 #[va,.bool rng] w fun e w'=>e=.returned (zht (ckR fs rng))∧But [] w w':=by(
 have CA:=af (zgm va fs c w ha hn lf hc)
 obtain⟨q,cap,rfl,-,-⟩:=id ha
 obtain⟨ca,hca⟩:∃ ca,ca=o9 fs:=⟨_,rfl⟩
 obtain⟨z,hz⟩:∃ z,z=ckR fs rng:=⟨_,rfl⟩
 have HZ:Hid (z=if ca≠0 then ca else if rng=false then 2 else if 41<fs.length then 4 else 0):=by show _=_;rw[hz,hca];rfl
 rw[← hca] at CA
 rw[← hz]
 clear ha hca hz
 generalize fs.length=n at *
 go_enter func74,ntmps74
 go_wp2_with fail
 refine (ae CA).mono ?_
 rintro e w1 ⟨rfl,hb1⟩
 have B1:=af hb1
 clear hb1 CA
 by_cases h0:ca=0
 ·(
 subst h0
 have HZ2:Hid (z=if rng=false then 2 else if 41<n then 4 else 0):=by show _=_;rw[ae HZ];simp
 rw[show zht 0=.nilIface from rfl]
 clear HZ
 cases rng with
 | false =>
  obtain rfl:z=2:=by rw[ae HZ2];rfl
  clear HZ2
  go_wp2
  go_ret
  exact⟨rfl,ae B1⟩
 | true =>
  by_cases h41:41<n
  ·obtain rfl:z=4:=by rw[ae HZ2,if_neg (by decide),if_pos h41]
   clear HZ2
   go_wp2
   go_ret
   exact⟨rfl,ae B1⟩
  ·obtain rfl:z=0:=by rw[ae HZ2,if_neg (by decide),if_neg h41]
   clear HZ2
   have h42:¬ n > 41:=h41
   go_wp2
   go_ret
   exact⟨rfl,ae B1⟩)
 ·(
 obtain rfl:z=ca:=by rw[ae HZ,if_pos h0]
 obtain⟨ev,hev⟩:∃ ev,ev=zht z:=⟨_,rfl⟩
 have hev2:ev=.iface 33 (.int .i64 z):=by rw[hev];unfold zht;rw[if_neg h0]
 rw[← hev,hev2]
 have HEV:=af (hev2.symm.trans hev)
 clear hev hev2 HZ
 go_wp2
 go_ret
 first | exact⟨rfl,ae B1⟩ | exact⟨congrArg _ (ae HEV),ae B1⟩))
theorem zjj (r:Rat):∀ n,zn r n=r^n
 | 0=>by show (1:Rat)=_;rw[Rat.pow_zero]
 | n+1=>by show zn r n*r=_;rw[zjj r n,Rat.pow_succ]
theorem zto (v:Value) (fs:List Rat) (inc:Nat) (rb:Nat) (r:Rat) (w:World) (hr:jl w v fs) (hrb:zi w rb r) (hn:fs.length≤41) (hi:inc≤20) (lf:∀ f ∈ fs,Len f 1) (lr:Len r 1) (b:Bool) (hb:b=decide (sgR (fun j=>atR fs j*zn r j) fs.length≤zn r inc)) :
   Calls prog 90 #[.int .i64 (inc:Int),v,.pointer (some ⟨rb,0,none⟩)] w fun e w'=>e=.returned (.bool b)∧But [] w w':=by(
 have hF:∀ i,i<fs.length→fs[i]? = some (atR fs i):=fun i hi=>by unfold atR;rw[List.getElem?_eq_getElem hi];rfl
 have lp:∀ x,x<fs.length→qw (atR fs x) 2:=fun x hx=>by
  have e:atR fs x=fs[x]:=by unfold atR;rw[List.getElem?_eq_getElem hx];rfl
  rw[e]
  exact zef (lf _ (List.getElem_mem hx))
 have ur:qw r 2:=zef lr
 have lw:∀ k,k≤41→qw (zn r k) 100:=fun k hk=>by
  rw[zjj]
  exact (ur.zbz k).mono (by omega)
 have lt:∀ x,x<fs.length→qw (atR fs x*zn r x) 102:=fun x hx=>((lp x hx).mul (lw x (by omega))).mono (by omega)
 have ls:∀ k,k≤fs.length→qw (sgR (fun j=>atR fs j*zn r j) k) 10000:=fun k hk=>(zoy (F:=fun j=>atR fs j*zn r j) (c:=102) k (fun i hi=>lt i (by omega))).mono (by
  have:k*(102+1)≤41*103:=Nat.mul_le_mul (by omega) (Nat.le_refl _)
  omega)
 have I0:=af (fun W=>zbk 0 W (by omega) (by omega))
 have I1:=af (fun W=>zbk 1 W (by omega) (by omega))
 have PW:=af (fun W (hb:But [] w W)=>zmv rb r inc W (hrb.but hb) (ur.mono (by omega)) (by omega))
 have CM:Hid (∀ W x y,zi W x (sgR (fun j=>atR fs j*zn r j) fs.length)→zi W y (r^inc)→Calls prog 22 #[.pointer (some ⟨x,0,none⟩),.pointer (some ⟨y,0,none⟩)] W fun e w'=>∃ c,e=.returned (.int .i64 c)∧(c≤0↔b=true)∧But [] W w'):=fun W x y hx hy=>by
  refine (zvv x y _ _ W hx hy ((ls _ (Nat.le_refl _)).mono (by omega)) ((ur.zbz inc).mono (by omega))).mono ?_
  rintro e w' ⟨c,he,h1,h2,h3,hbt⟩
  refine⟨c,he,?_,hbt⟩
  rw[hb,decide_eq_true_eq,zjj]
  constructor
  ·intro h
   refine Rat.not_lt.1 (fun h4=>?_)
   have:=h2.2 h4
   omega
  ·intro h
   have h4:¬ 0<c:=fun h5=>absurd (h2.1 h5) (Rat.not_lt.2 h)
   omega
 obtain⟨a,cap,rfl,hcap,hV⟩:=zfi hr hF
 have HV:=af hV
 have HLT:=af lt
 have HLS:=af ls
 have HLP:=af lp
 have HLW:=af lw
 have HRB:=af hrb
 have HUR:=af ur
 obtain⟨n,hnn⟩:∃ n,n=fs.length:=⟨_,rfl⟩
 rw[← hnn] at hn hcap HV HLT HLS HLP CM
 rw[← hnn]
 clear hV hr hF lf lp lt ls lw ur hrb hnn hb lr
 go_enter func90,ntmps90
 go_wp2_with fail
 refine (ae I0 _).mono ?_
 rintro e w1 ⟨g1,rfl,h1,hb1⟩
 have S1:=af (And.intro h1 hb1)
 clear h1 hb1
 go_wp2_with fail
 refine (ae I1 _).mono ?_
 rintro e w2 ⟨g2,rfl,h2,hb2⟩
 have S2:Hid (zi w2 g1 (sgR (fun j=>atR fs j*zn r j) 0)∧zi w2 g2 (zn r 0)∧But [] w w2):=⟨(ae S1).1.but hb2,h2,(ae S1).2.trans' hb2⟩
 clear h2 hb2 S1 I0 I1
 go_wp2
 go_loopw [7,8,15] (fun p q i wr=>∃ (k pb qb:Nat),k≤n∧i=.int .i64 (k:Int)∧p=.pointer (some ⟨pb,0,none⟩)∧q=.pointer (some ⟨qb,0,none⟩)∧Hid (zi wr pb (sgR (fun j=>atR fs j*zn r j) k)∧zi wr qb (zn r k)∧But [] w wr)) (fun _ _ i _=>n-(intOf i).toNat)
 case atStart=>exact⟨0,g1,g2,Nat.zero_le _,rfl,rfl,rfl,ae S2⟩
 case round =>(
 obtain⟨k,pb,qb,hk,rfl,rfl,rfl,HI⟩:=hrel
 rename World=>wr
 clear S2
 by_cases hlt:k<n
 ·(
 obtain⟨b',off,g,rfl,c0,hT⟩:=ae HV wr (ae HI).2.2 k hlt
 have MU:=af (zok g qb _ _ wr hT (ae HI).2.1 ((ae HLP k hlt).mono (by omega)) ((ae HLW k (by omega)).mono (by omega)))
 clear hT
 go_wp2_with fail
 refine (ae MU).mono ?_
 rintro e w3 ⟨x3,rfl,h3,hb3⟩
 have A3:=af (zvw pb x3 _ _ w3 ((ae HI).1.but hb3) h3 ((ae HLS k (by omega)).mono (by omega)) ((ae HLT k hlt).mono (by omega)))
 have S3:=af (And.intro ((ae HI).2.1.but hb3) ((ae HI).2.2.trans' hb3))
 clear h3 hb3 MU HI
 go_wp2_with fail
 refine (ae A3).mono ?_
 rintro e w4 ⟨x4,rfl,h4,hb4⟩
 have M4:=af (zok qb rb _ _ w4 ((ae S3).1.but hb4) ((ae HRB).but ((ae S3).2.trans' hb4)) ((ae HLW k (by omega)).mono (by omega)) ((ae HUR).mono (by omega)))
 have S4:=af (And.intro h4 ((ae S3).2.trans' hb4))
 clear h4 hb4 A3 S3
 go_wp2_with fail
 refine (ae M4).mono ?_
 rintro e w5 ⟨x5,rfl,h5,hb5⟩
 have S5:Hid (zi w5 x4 (sgR (fun j=>atR fs j*zn r j) (k+1))∧zi w5 x5 (zn r (k+1))∧But [] w w5):=⟨(ae S4).1.but hb5,h5,(ae S4).2.trans' hb5⟩
 clear h5 hb5 M4 S4
 go_wp2
 exact⟨⟨k+1,x4,x5,by omega,by go_num,rfl,rfl,ae S5⟩,by simp[intOf];omega⟩)
 ·(
 obtain rfl:k=n:=by omega
 go_wp2_with fail
 refine (ae PW _ (ae HI).2.2).mono ?_
 rintro e w3 ⟨x3,rfl,h3,hb3⟩
 have C3:=af (ae CM _ _ _ ((ae HI).1.but hb3) h3)
 have B3:=af ((ae HI).2.2.trans' hb3)
 clear h3 hb3 HI PW CM
 go_wp2_with fail
 refine (ae C3).mono ?_
 rintro e w4 ⟨c,rfl,hc,hb4⟩
 have B4:=af ((ae B3).trans' hb4)
 clear hb4 B3 C3
 cases b with
 | true =>
  have h0:c≤0:=hc.2 rfl
  clear hc
  go_wp2
  go_ret
  exact⟨rfl,ae B4⟩
 | false =>
  have h0:¬ c≤0:=fun h=>absurd (hc.1 h) (by decide)
  clear hc
  go_wp2
  go_ret
  exact⟨congrArg (fun b=>Ending.returned (Value.bool b)) (decide_eq_false (Int.not_le.2 h0)),ae B4⟩)))
theorem ztn (v:Value) (fs:List Rat) (inc:Nat) (rb:Nat) (r:Rat) (w:World) (hr:jl w v fs) (hrb:zi w rb r) (hn:fs.length≤41) (hi:inc≤20) (lf:∀ f ∈ fs,Len f 1) (lr:Len r 1) (b:Bool) (hb:b=decide (sgR (fun j=>atR fs j*zn r j) fs.length≤zn r inc)) :
   Calls prog 24 #[.int .i64 (inc:Int),v,.pointer (some ⟨rb,0,none⟩)] w fun e w'=>e=.returned (.bool b)∧But [] w w':=by(
 have SI:=af (zto v fs inc rb r w hr hrb hn hi lf lr b hb)
 obtain⟨a,cap,rfl,-⟩:=hr.open
 clear hr hb lf
 generalize fs.length=n at *
 go_enter func24,ntmps24
 go_wp2_with fail
 refine (ae SI).mono ?_
 rintro e w1 ⟨rfl,hb1⟩
 have B1:=af hb1
 clear hb1 SI
 go_wp2
 go_ret
 exact⟨rfl,ae B1⟩)
end Go.Proofs.YtagmkkiagjmimaaGreatDoor
