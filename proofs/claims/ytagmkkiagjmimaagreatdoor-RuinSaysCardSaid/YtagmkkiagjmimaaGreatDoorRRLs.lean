/- Quotients of the reference's where there -/
import Derived.Test.YtagmkkiagjmimaaGreatDoorRHJr
import Derived.Test.YtagmkkiagjmimaaGreatDoorRIR
namespace Go.Proofs.YtagmkkiagjmimaaGreatDoor
open Go.Proofs.Tryz
open Go.RowKit
set_option maxHeartbeats 16000000
set_option maxRecDepth 100000
set_option linter.unusedVariables false
theorem zeb {w:World} {v:Value} {fs:List Rat} {F:Nat→Rat} (hr:xw w v fs) (hF:∀ i,i<fs.length→fs[i]? = some (F i)):∃ a cap,v=.slice a fs.length cap∧fs.length≤cap∧∀ W,But [] w W→∀ i,i<fs.length→∃ b off g,a=some ⟨b,off,none⟩∧W.cell? ⟨b,off+i,none⟩=some (.pointer (some ⟨g,0,none⟩))∧zi W g (F i):=by(
obtain⟨a,cap,e,hc⟩:=hr.open
refine⟨a,cap,e,hc,fun W hb i hi=>?_⟩
have h0:=hr.but hb
rw[e] at h0
obtain⟨-,b,off,g,f,h1,h2,h3,h4⟩:=h0.at i hi
rw[hF i hi] at h3
obtain rfl:=Option.some.inj h3
exact⟨b,off,g,h1,h2,h4⟩)
theorem zro (xb yb:Nat) (f g:Rat) (w:World) (hx:zi w xb f) (hy:zi w yb g) (lf:ja f 2000000) (lg:ja g 2000000) :
  Calls prog 22 #[.pointer (some ⟨xb,0,none⟩),.pointer (some ⟨yb,0,none⟩)] w fun e w'=>∃ c,e=.returned (.int .i64 c)∧(c<0↔f<g)∧(0<c↔g<f)∧(c=0↔f=g)∧But [] w w':=by(
have hfd:0<f.den:=Nat.pos_of_ne_zero f.den_nz
have hgd:0<g.den:=Nat.pos_of_ne_zero g.den_nz
obtain⟨lf1,lf2⟩:=lf
obtain⟨lg1,lg2⟩:=lg
have d1:(wd 4294967296 ((f.den:Nat):Int).natAbs).length≤2000000:=by rw[Int.natAbs_natCast];exact lf2
have d2:(wd 4294967296 ((g.den:Nat):Int).natAbs).length≤2000000:=by rw[Int.natAbs_natCast];exact lg2
have p1:=j6 f.num (g.den:Int) _ _ lf1 d2
have p2:=j6 g.num (f.den:Int) _ _ lg1 d1
have l1:=Rat.lt_iff (a:=f) (b:=g)
have l2:=Rat.lt_iff (a:=g) (b:=f)
have e0:f=g↔¬ f<g∧¬ g<f:=⟨fun h=>by rw[h];exact⟨Rat.lt_irrefl,Rat.lt_irrefl⟩,fun ⟨h1,h2⟩=>Rat.le_antisymm (Rat.not_lt.1 h2) (Rat.not_lt.1 h1)⟩
refine (zuj xb yb f.num g.num f.den g.den w hx hy hfd hgd (by omega) (by omega) (by omega) (by omega) _ _ rfl rfl (by omega) (by omega)).mono ?_
rintro e w' ⟨rfl,hb⟩
refine⟨_,rfl,?_,?_,?_,hb⟩
·rw[l1];unfold nk;split
 ·omega
 ·split <;> omega
·rw[l2];unfold nk;split
 ·omega
 ·split <;> omega
·rw[e0,l1,l2];unfold nk;split
 ·omega
 ·split <;> omega)
theorem zzm (fs:List Rat):∀ k,k≤fs.length→zdd (fs.take k)=sgR (fun j=>fs[j]?.getD 0) k
 | 0,_=>by rw[List.take_zero];rfl
 | k+1,h=>by
  rw[zfv fs k (by omega),zzm fs k (by omega)]
  rfl
theorem zxa (fs:List Rat):zdd fs=sgR (fun j=>fs[j]?.getD 0) fs.length:=by
 have:=zzm fs fs.length (Nat.le_refl _)
 rwa [List.take_length] at this
theorem zuf (v:Value) (fs:List Rat) (F:Nat→Rat) (w:World) (hr:xw w v fs) (hF:∀ i,i<fs.length→fs[i]? = some (F i)) (h1:1≤fs.length) (hn:fs.length≤1000) (lf:∀ i,i<fs.length→ja (F i) 2000000) (ls:∀ k,k≤fs.length→ja (sgR F k) 2000000) :
  Calls prog 108 #[v] w fun e w'=>∃ zb,e=.returned (.pointer (some ⟨zb,0,none⟩))∧zi w' zb (sgR F fs.length)∧But [] w w':=by(
obtain⟨a,cap,rfl,hcap,hV⟩:=zeb hr hF
have HV:=af hV
have HL:=af lf
have HS:=af ls
clear hV hr hF lf ls
generalize fs.length=n at *
have hb0:=qen w 113
have bW:But [] w (w.alloc (.cells #[.bool false,.slice none 0 0,.bool false,.slice none 0 0] 113)):=(But.refl _ _).alloc _
obtain⟨W,hW⟩:∃ W,W=w.alloc (.cells #[.bool false,.slice none 0 0,.bool false,.slice none 0 0] 113):=⟨_,rfl⟩
rw[← hW] at hb0 bW
obtain⟨g0,hg0⟩:∃ g,g=w.heap.size:=⟨_,rfl⟩
rw[← hg0] at hb0
have I0:Hid (qas W g0 (sgR F 0)∧(0<0→zi W g0 (sgR F 0))∧But [] w W):=⟨.inr ⟨rfl,hb0⟩,fun h=>absurd h (by omega),bW⟩
have HW:=af hW
clear hW hb0 bW
go_enter func108,ntmps108
go_wp2
rw[← ae HW,← hg0]
clear HW hg0
go_loopw [3,9] (fun p i wr=>∃ (k pb:Nat),k≤n∧i=.int .i64 (k:Int)∧p=.pointer (some ⟨pb,0,none⟩)∧Hid (qas wr pb (sgR F k)∧(0<k→zi wr pb (sgR F k))∧But [] w wr)) (fun _ i _=>n-(intOf i).toNat)
case atStart=>exact⟨0,g0,Nat.zero_le _,rfl,rfl,ae I0⟩
case round =>(
obtain⟨k,pb,hk,rfl,rfl,HI⟩:=hrel
rename World=>wr
clear I0
by_cases hlt:k<n
·(
obtain⟨b,off,g,rfl,c0,hT⟩:=ae HV wr (ae HI).2.2 k hlt
have AD:=af (qkz pb g (sgR F k) (F k) wr (ae HI).1 hT (ae HS k (by omega)) (ae HL k hlt))
clear hT
go_wp2_with fail
refine (ae AD).mono ?_
rintro e w2 ⟨g2,rfl,h2,hb2⟩
have NS:Hid (qas w2 g2 (sgR F (k+1))∧(0<k+1→zi w2 g2 (sgR F (k+1)))∧But [] w w2):=⟨.inl h2,fun _=>h2,(ae HI).2.2.trans' hb2⟩
clear h2 hb2 AD
go_wp2
exact⟨⟨k+1,g2,by omega,by go_num,rfl,ae NS⟩,by simp[intOf];omega⟩)
·obtain rfl:k=n:=by omega
 go_wp2
 go_ret
 exact⟨pb,rfl,(ae HI).2.1 (by omega),(ae HI).2.2⟩))
theorem zoo (v:Value) (fs:List Rat) (w:World) (c:Nat) (hr:xw w v fs) (h1:1≤fs.length) (hn:fs.length≤201) (lf:∀ f ∈ fs,Len f c) (hc:c≤100) (z:Int) (hz:z=if fs.any (fun f=>decide (f.num<0)) then 1 else if zdd fs=1 then 0 else 10) :
  Calls prog 95 #[v,.int .i64 ((fs.length:Nat):Int)] w fun e w'=>e=.returned (.int .i64 z)∧But [] w w':=by(
obtain⟨F,hFd⟩:∃ F:Nat→Rat,F=fun j=>fs[j]?.getD 0:=⟨_,rfl⟩
have hF:∀ i,i<fs.length→fs[i]? = some (F i):=fun i hi=>by
 rw[hFd,List.getElem?_eq_getElem hi]
 show some fs[i]=some (fs[i]?.getD 0)
 rw[List.getElem?_eq_getElem hi];rfl
have lF:∀ i,i<fs.length→ja (F i) 200:=fun i hi=>by
 have e:=hF i hi
 rw[List.getElem?_eq_getElem hi] at e
 rw[← Option.some.inj e]
 exact (zdo (lf _ (List.getElem_mem hi))).mono (by omega)
have ls:∀ k,k≤fs.length→ja (sgR F k) 50000:=fun k hk=>(zsg (F:=F) (c:=200) k (fun i hi=>lF i (by omega))).mono (by
 have:k*(200+1)≤201*201:=Nat.mul_le_mul (by omega) (Nat.le_refl _)
 omega)
have hneg:∀ m,m<fs.length→(F m).num<0→z=1:=fun m hm h=>by
 rw[hz,if_pos]
 refine List.any_eq_true.2 ⟨fs[m],List.getElem_mem hm,?_⟩
 have e:=hF m hm
 rw[List.getElem?_eq_getElem hm] at e
 rw[Option.some.inj e]
 exact decide_eq_true h
have hpos:(∀ m,m<fs.length→0≤(F m).num)→z=if sgR F fs.length=((1:Int):Rat) then 0 else 10:=fun h=>by
 rw[hz,if_neg,zxa,← hFd]
 ·rfl
 ·intro ha
  obtain⟨f,hf,hlt⟩:=List.any_eq_true.1 ha
  obtain⟨m,hm,rfl⟩:=List.mem_iff_getElem.1 hf
  have e:=hF m hm
  rw[List.getElem?_eq_getElem hm] at e
  rw[Option.some.inj e] at hlt
  have:=h m hm
  have:=of_decide_eq_true hlt
  omega
have SM:=af (fun W (hb:But [] w W)=>zuf v fs F W (hr.but hb) hF h1 (by omega) (fun i hi=>(lF i hi).mono (by omega)) (fun k hk=>(ls k hk).mono (by omega)))
have I1:=af (fun W=>zfy 1 W (by omega) (by omega))
have CM:=af (fun W x y (hx:zi W x (sgR F fs.length)) (hy:zi W y ((1:Int):Rat))=>zro x y _ _ W hx hy ((ls _ (Nat.le_refl _)).mono (by omega)) ((ja.int (by decide)).mono (by omega)))
obtain⟨a,cap,rfl,hcap,hV⟩:=zeb hr hF
have HV:=af hV
have HL:=af lF
have HN:=af hneg
have HP:=af hpos
clear hV hr hF lf lF ls hneg hpos hz hFd
obtain⟨n,hnn⟩:∃ n,n=fs.length:=⟨_,rfl⟩
rw[← hnn] at h1 hn hcap HV HL HN HP SM CM
rw[← hnn]
clear hnn
go_enter func95,ntmps95
go_wp2
go_loopw [13] (fun i wr=>∃ k:Nat,k≤n∧i=.int .i64 (k:Int)∧Hid ((∀ m,m<k→0≤(F m).num)∧But [] w wr)) (fun i _=>n-(intOf i).toNat)
case atStart=>exact⟨0,Nat.zero_le _,rfl,fun m hm=>absurd hm (by omega),But.refl _ _⟩
case round =>(
obtain⟨k,hk,rfl,HI⟩:=hrel
rename World=>wr
by_cases hlt:k<n
·(
obtain⟨b,off,g,rfl,c0,hT⟩:=ae HV wr (ae HI).2 k hlt
obtain⟨s,hs⟩:∃ s,s=(F k).num.sign:=⟨_,rfl⟩
have SG:=af (qfv g _ wr hT s hs ((ae HL k hlt).mono (by omega)))
clear hT
by_cases hneg:(F k).num<0
·(
have p1:s<0:=by rw[hs,Int.sign_eq_neg_one_of_neg hneg];decide
obtain rfl:=ae HN k hlt hneg
clear hs hneg HN HP
go_wp2_with fail
refine (ae SG).mono ?_
rintro e w2 ⟨rfl,hb2⟩
have B2:=af ((ae HI).2.trans' hb2)
clear hb2 SG
go_wp2
go_ret
exact⟨rfl,ae B2⟩)
·(
have hnn:0≤(F k).num:=by omega
have p1:0≤s:=by rw[hs];exact Int.sign_nonneg_iff.2 hnn
have NI:Hid (∀ m,m<k+1→0≤(F m).num):=fun m hm=>by
 by_cases e:m=k
 ·rw[e];exact hnn
 ·exact (ae HI).1 m (by omega)
clear hs hneg hnn
go_wp2_with fail
refine (ae SG).mono ?_
rintro e w2 ⟨rfl,hb2⟩
have B2:=af ((ae HI).2.trans' hb2)
clear hb2 SG
go_wp2
exact⟨⟨k+1,by omega,by go_num,ae NI,ae B2⟩,by simp[intOf];omega⟩))
·(
obtain rfl:k=n:=by omega
have hz2:=af (ae HP (ae HI).1)
have B0:=af (ae HI).2
clear HP HN HI
go_wp2_with fail
refine (ae SM _ (ae B0)).mono ?_
rintro e w2 ⟨g2,rfl,h2,hb2⟩
have S2:=af (And.intro h2 ((ae B0).trans' hb2))
clear h2 hb2 B0 SM
go_wp2_with fail
refine (ae I1 _).mono ?_
rintro e w3 ⟨g3,rfl,h3,hb3⟩
have C3:=af (ae CM _ _ _ ((ae S2).1.but hb3) h3)
have B3:=af ((ae S2).2.trans' hb3)
clear h3 hb3 S2 I1 CM
go_wp2_with fail
refine (ae C3).mono ?_
rintro e w4 ⟨r,rfl,-,-,hr0,hb4⟩
have B4:=af ((ae B3).trans' hb4)
clear hb4 B3 C3
by_cases h0:sgR F k=((1:Int):Rat)
·(
have hr1:r=0:=hr0.2 h0
have hz0:z=0:=by rw[ae hz2,if_pos h0]
subst hr1 hz0
clear hr0 h0 hz2
go_wp2
go_ret
exact⟨rfl,ae B4⟩)
·(
have hr1:(r != 0)=true:=by simpa using fun h=>h0 (hr0.1 h)
have hz0:z=10:=by rw[ae hz2,if_neg h0]
subst hz0
clear hr0 h0 hz2
go_wp2
go_ret
exact⟨rfl,ae B4⟩))))
theorem zxs (v:Value) (fs:List Rat) (w:World) (c:Nat) (hr:xw w v fs) (hn:fs.length≤1000) (lf:∀ f ∈ fs,Len f c) (hc:c≤100) :
  Calls prog 29 #[v] w fun e w'=>e=.returned (.int .i64 (ol fs))∧But [] w w':=by(
obtain⟨z,hz⟩:∃ z,z=ol fs:=⟨_,rfl⟩
rw[← hz]
have HZ:=af hz
have bw:But [] w w:=But.refl _ _
have SH:Hid (1≤fs.length→fs.length≤201→Calls prog 95 #[v,.int .i64 ((fs.length:Nat):Int)] w fun e w'=>e=.returned (.int .i64 z)∧But [] w w'):=fun h1 h2=>zoo v fs w c hr h1 h2 lf hc z (by rw[hz];unfold ol;rw[if_neg (by omega)])
have H4:Hid (fs.length<1∨201<fs.length→z=4):=fun h=>by rw[hz];unfold ol;rw[if_pos h]
obtain⟨a,cap,rfl,-⟩:=hr.open
clear hz HZ hr lf
generalize fs.length=n at *
by_cases h1:n<1
·(
obtain rfl:=ae H4 (.inl h1)
clear SH H4
go_enter func29,ntmps29
go_wp2
go_ret
exact⟨rfl,bw⟩)
·(
by_cases h2:201<n
·(
obtain rfl:=ae H4 (.inr h2)
clear SH H4
go_enter func29,ntmps29
go_wp2
go_ret
exact⟨rfl,bw⟩)
·(
have h3:¬ n > 201:=h2
have S:=af (ae SH (by omega) (by omega))
clear SH H4
go_enter func29,ntmps29
go_wp2_with fail
refine (ae S).mono ?_
rintro e w2 ⟨rfl,hb2⟩
have B2:=af hb2
clear hb2 S
go_wp2
go_ret
exact⟨rfl,ae B2⟩)))
def ruE (fs:List Rat) (st inc ys:Int):Int:=if ol fs≠0 then ol fs else if ¬ (0≤st∧st≤60∧0≤inc∧inc≤20∧0≤ys∧ys≤16) then 2 else if 41<fs.length then 4 else 0
theorem zkf (v:Value) (fs:List Rat) (st inc ys:Int) (w:World) (c:Nat) (hr:xw w v fs) (hn:fs.length≤1000) (lf:∀ f ∈ fs,Len f c) (hc:c≤100) :
  Calls prog 16 #[.int .i64 st,.int .i64 inc,v,.int .i64 ys] w fun e w'=>e=.returned (.int .i64 (ruE fs st inc ys))∧But [] w w':=by(
have LC:=af (zxs v fs w c hr hn lf hc)
obtain⟨z,hz⟩:∃ z,z=ruE fs st inc ys:=⟨_,rfl⟩
rw[← hz]
obtain⟨y,hy⟩:∃ y,y=ol fs:=⟨_,rfl⟩
rw[← hy] at LC
have HZ:Hid (z=if y≠0 then y else if ¬ (0≤st∧st≤60∧0≤inc∧inc≤20∧0≤ys∧ys≤16) then 2 else if 41<fs.length then 4 else 0):=by show z=_;rw[hz,hy];rfl
obtain⟨a,cap,rfl,-⟩:=hr.open
clear hz hy hr lf
generalize fs.length=n at *
by_cases h0:y≠0
·(
obtain rfl:z=y:=by rw[ae HZ,if_pos h0]
have h1:(z != 0)=true:=by simpa using h0
clear HZ h0
go_enter func16,ntmps16
go_wp2_with fail
refine (ae LC).mono ?_
rintro e w2 ⟨rfl,hb2⟩
have B2:=af hb2
clear hb2 LC
go_wp2
go_ret
exact⟨rfl,ae B2⟩)
·(
obtain rfl:y=0:=by omega
have HZ2:Hid (z=if ¬ (0≤st∧st≤60∧0≤inc∧inc≤20∧0≤ys∧ys≤16) then 2 else if 41<n then 4 else 0):=by show z=_;rw[ae HZ,if_neg h0]
clear HZ h0
go_enter func16,ntmps16
go_wp2_with fail
refine (ae LC).mono ?_
rintro e w2 ⟨rfl,hb2⟩
have B2:=af hb2
clear hb2 LC
by_cases hr:0≤st∧st≤60∧0≤inc∧inc≤20∧0≤ys∧ys≤16
·(
obtain⟨q1,q2,q3,q4,q5,q6⟩:=hr
have r1:¬ st<0:=by omega
have r2:¬ st > 60:=by omega
have r3:¬ inc<0:=by omega
have r4:¬ inc > 20:=by omega
have r5:¬ ys<0:=by omega
have r6:¬ ys > 16:=by omega
by_cases hl:41<n
·(
obtain rfl:z=4:=by rw[ae HZ2,if_neg (by simp;omega),if_pos hl]
clear HZ2
go_wp2
go_ret
exact⟨rfl,ae B2⟩)
·(
obtain rfl:z=0:=by rw[ae HZ2,if_neg (by simp;omega),if_neg hl]
have r7:¬ n > 41:=hl
clear HZ2
go_wp2
go_ret
exact⟨rfl,ae B2⟩))
·(
obtain rfl:z=2:=by rw[ae HZ2,if_pos hr]
clear HZ2
have hx:st<0∨¬ st<0∧(st > 60∨¬ st > 60∧(inc<0∨¬ inc<0∧(inc > 20∨¬ inc > 20∧(ys<0∨¬ ys<0∧ys > 16)))):=by omega
clear hr
rcases hx with h|⟨h1,h|⟨h2,h|⟨h3,h|⟨h4,h|⟨h5,h⟩⟩⟩⟩⟩
all_goals(
go_wp2
go_ret
exact⟨rfl,ae B2⟩))))
end Go.Proofs.YtagmkkiagjmimaaGreatDoor
