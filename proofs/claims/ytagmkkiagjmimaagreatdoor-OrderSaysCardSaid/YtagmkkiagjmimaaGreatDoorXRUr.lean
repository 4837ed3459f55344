/- Out of RUa: what needs no more than thes -/
import Derived.Test.YtagmkkiagjmimaaGreatDoorXK6
import Derived.Test.YtagmkkiagjmimaaGreatDoorXRLb
namespace Go.Proofs.YtagmkkiagjmimaaGreatDoor
open Go.Proofs.Tryz
open Go.RowKit
set_option maxHeartbeats 16000000
set_option maxRecDepth 100000
theorem zwi (fs:List Rat):∀ k,k≤fs.length→zcs (fs.take k)=sgR (fun j=>fs[j]?.getD 0) k
 | 0,_=>by rw[List.take_zero];rfl
 | k+1,h=>by
  rw[zib fs k (by omega),zwi fs k (by omega)]
  rfl
theorem ztq (fs:List Rat):zcs fs=sgR (fun j=>fs[j]?.getD 0) fs.length:=by
 have:=zwi fs fs.length (Nat.le_refl _)
 rwa [List.take_length] at this
theorem zja (v:Value) (fs:List Rat) (F:Nat→Rat) (w:World) (hr:zn w v fs) (hF:∀ i,i<fs.length→fs[i]? = some (F i)) (h1:1≤fs.length) (hn:fs.length≤1000) (lf:∀ i,i<fs.length→qd (F i) 2000000) (ls:∀ k,k≤fs.length→qd (sgR F k) 2000000) :
   Calls prog 108 #[v] w fun e w'=>∃ zb,e=.returned (.pointer (some ⟨zb,0,none⟩))∧zi w' zb (sgR F fs.length)∧But [] w w':=by(
 obtain⟨a,cap,rfl,hcap,hV⟩:=zdr hr hF
 have HV:=af hV
 have HL:=af lf
 have HS:=af ls
 clear hV hr hF lf ls
 generalize fs.length=n at *
 have hb0:=zoa w 113
 have bW:But [] w (w.alloc (.cells #[.bool false,.slice none 0 0,.bool false,.slice none 0 0] 113)):=(But.refl _ _).alloc _
 obtain⟨W,hW⟩:∃ W,W=w.alloc (.cells #[.bool false,.slice none 0 0,.bool false,.slice none 0 0] 113):=⟨_,rfl⟩
 rw[← hW] at hb0 bW
 obtain⟨g0,hg0⟩:∃ g,g=w.heap.size:=⟨_,rfl⟩
 rw[← hg0] at hb0
 have I0:Hid (l8 W g0 (sgR F 0)∧(0<0→zi W g0 (sgR F 0))∧But [] w W):=⟨.inr ⟨rfl,hb0⟩,fun h=>absurd h (by omega),bW⟩
 have HW:=af hW
 clear hW hb0 bW
 go_enter func108,ntmps108
 go_wp2
 rw[← ae HW,← hg0]
 clear HW hg0
 go_loopw [3,9] (fun p i wr=>∃ (k pb:Nat),k≤n∧i=.int .i64 (k:Int)∧p=.pointer (some ⟨pb,0,none⟩)∧Hid (l8 wr pb (sgR F k)∧(0<k→zi wr pb (sgR F k))∧But [] w wr)) (fun _ i _=>n-(intOf i).toNat)
 case atStart=>exact⟨0,g0,Nat.zero_le _,rfl,rfl,ae I0⟩
 case round =>(
 obtain⟨k,pb,hk,rfl,rfl,HI⟩:=hrel
 rename World=>wr
 clear I0
 by_cases hlt:k<n
 ·(
 obtain⟨b,off,g,rfl,c0,hT⟩:=ae HV wr (ae HI).2.2 k hlt
 have AD:=af (zwn pb g (sgR F k) (F k) wr (ae HI).1 hT (ae HS k (by omega)) (ae HL k hlt))
 clear hT
 go_wp2_with fail
 refine (ae AD).mono ?_
 rintro e w2 ⟨g2,rfl,h2,hb2⟩
 have NS:Hid (l8 w2 g2 (sgR F (k+1))∧(0<k+1→zi w2 g2 (sgR F (k+1)))∧But [] w w2):=⟨.inl h2,fun _=>h2,(ae HI).2.2.trans' hb2⟩
 clear h2 hb2 AD
 go_wp2
 exact⟨⟨k+1,g2,by omega,by go_num,rfl,ae NS⟩,by simp[intOf];omega⟩)
 ·obtain rfl:k=n:=by omega
  go_wp2
  go_ret
  exact⟨pb,rfl,(ae HI).2.1 (by omega),(ae HI).2.2⟩))
theorem zmo (v:Value) (fs:List Rat) (w:World) (c:Nat) (hr:zn w v fs) (h1:1≤fs.length) (hn:fs.length≤201) (lf:∀ f ∈ fs,Len f c) (hc:c≤100) (z:Int) (hz:z=if fs.any (fun f=>decide (f.num<0)) then 1 else if zcs fs=1 then 0 else 10) :
   Calls prog 95 #[v,.int .i64 ((fs.length:Nat):Int)] w fun e w'=>e=.returned (.int .i64 z)∧But [] w w':=by(
 obtain⟨F,hFd⟩:∃ F:Nat→Rat,F=fun j=>fs[j]?.getD 0:=⟨_,rfl⟩
 have hF:∀ i,i<fs.length→fs[i]? = some (F i):=fun i hi=>by
  rw[hFd,List.getElem?_eq_getElem hi]
  show some fs[i]=some (fs[i]?.getD 0)
  rw[List.getElem?_eq_getElem hi];rfl
 have lF:∀ i,i<fs.length→qd (F i) 200:=fun i hi=>by
  have e:=hF i hi
  rw[List.getElem?_eq_getElem hi] at e
  rw[← Option.some.inj e]
  exact (zhk (lf _ (List.getElem_mem hi))).mono (by omega)
 have ls:∀ k,k≤fs.length→qd (sgR F k) 50000:=fun k hk=>(zcj (F:=F) (c:=200) k (fun i hi=>lF i (by omega))).mono (by
  have:k*(200+1)≤201*201:=Nat.mul_le_mul (by omega) (Nat.le_refl _)
  omega)
 have hneg:∀ m,m<fs.length→(F m).num<0→z=1:=fun m hm h=>by
  rw[hz,if_pos]
  refine List.any_eq_true.2 ⟨fs[m],List.getElem_mem hm,?_⟩
  have e:=hF m hm
  rw[List.getElem?_eq_getElem hm] at e
  rw[Option.some.inj e]
  exact decide_eq_true h
 have hpos:(∀ m,m<fs.length→0≤(F m).num)→z=if sgR F fs.length=((1:Int):Rat) then 0 else 10:=fun h=>by
  rw[hz,if_neg,ztq,← hFd]
  ·rfl
  ·intro ha
   obtain⟨f,hf,hlt⟩:=List.any_eq_true.1 ha
   obtain⟨m,hm,rfl⟩:=List.mem_iff_getElem.1 hf
   have e:=hF m hm
   rw[List.getElem?_eq_getElem hm] at e
   rw[Option.some.inj e] at hlt
   have:=h m hm
   have:=of_decide_eq_true hlt
   omega
 have SM:=af (fun W (hb:But [] w W)=>zja v fs F W (hr.but hb) hF h1 (by omega) (fun i hi=>(lF i hi).mono (by omega)) (fun k hk=>(ls k hk).mono (by omega)))
 have I1:=af (fun W=>zfh 1 W (by omega) (by omega))
 have CM:=af (fun W x y (hx:zi W x (sgR F fs.length)) (hy:zi W y ((1:Int):Rat))=>zoy x y _ _ W hx hy ((ls _ (Nat.le_refl _)).mono (by omega)) ((qd.int (by decide)).mono (by omega)))
 obtain⟨a,cap,rfl,hcap,hV⟩:=zdr hr hF
 have HV:=af hV
 have HL:=af lF
 have HN:=af hneg
 have HP:=af hpos
 clear hV hr hF lf lF ls hneg hpos hz hFd
 obtain⟨n,hnn⟩:∃ n,n=fs.length:=⟨_,rfl⟩
 rw[← hnn] at h1 hn hcap HV HL HN HP SM CM
 rw[← hnn]
 clear hnn
 go_enter func95,ntmps95
 go_wp2
 go_loopw [13] (fun i wr=>∃ k:Nat,k≤n∧i=.int .i64 (k:Int)∧Hid ((∀ m,m<k→0≤(F m).num)∧But [] w wr)) (fun i _=>n-(intOf i).toNat)
 case atStart=>exact⟨0,Nat.zero_le _,rfl,fun m hm=>absurd hm (by omega),But.refl _ _⟩
 case round =>(
 obtain⟨k,hk,rfl,HI⟩:=hrel
 rename World=>wr
 by_cases hlt:k<n
 ·(
 obtain⟨b,off,g,rfl,c0,hT⟩:=ae HV wr (ae HI).2 k hlt
 obtain⟨s,hs⟩:∃ s,s=(F k).num.sign:=⟨_,rfl⟩
 have SG:=af (zrf g _ wr hT s hs ((ae HL k hlt).mono (by omega)))
 clear hT
 by_cases hneg:(F k).num<0
 ·(
 have p1:s<0:=by rw[hs,Int.sign_eq_neg_one_of_neg hneg];decide
 obtain rfl:=ae HN k hlt hneg
 clear hs hneg HN HP
 go_wp2_with fail
 refine (ae SG).mono ?_
 rintro e w2 ⟨rfl,hb2⟩
 have B2:=af ((ae HI).2.trans' hb2)
 clear hb2 SG
 go_wp2
 go_ret
 exact⟨rfl,ae B2⟩)
 ·(
 have hnn:0≤(F k).num:=by omega
 have p1:0≤s:=by rw[hs];exact Int.sign_nonneg_iff.2 hnn
 have NI:Hid (∀ m,m<k+1→0≤(F m).num):=fun m hm=>by
  by_cases e:m=k
  ·rw[e];exact hnn
  ·exact (ae HI).1 m (by omega)
 clear hs hneg hnn
 go_wp2_with fail
 refine (ae SG).mono ?_
 rintro e w2 ⟨rfl,hb2⟩
 have B2:=af ((ae HI).2.trans' hb2)
 clear hb2 SG
 go_wp2
 exact⟨⟨k+1,by omega,by go_num,ae NI,ae B2⟩,by simp[intOf];omega⟩))
 ·(
 obtain rfl:k=n:=by omega
 have hz2:=af (ae HP (ae HI).1)
 have B0:=af (ae HI).2
 clear HP HN HI
 go_wp2_with fail
 refine (ae SM _ (ae B0)).mono ?_
 rintro e w2 ⟨g2,rfl,h2,hb2⟩
 have S2:=af (And.intro h2 ((ae B0).trans' hb2))
 clear h2 hb2 B0 SM
 go_wp2_with fail
 refine (ae I1 _).mono ?_
 rintro e w3 ⟨g3,rfl,h3,hb3⟩
 have C3:=af (ae CM _ _ _ ((ae S2).1.but hb3) h3)
 have B3:=af ((ae S2).2.trans' hb3)
 clear h3 hb3 S2 I1 CM
 go_wp2_with fail
 refine (ae C3).mono ?_
 rintro e w4 ⟨r,rfl,-,-,hr0,hb4⟩
 have B4:=af ((ae B3).trans' hb4)
 clear hb4 B3 C3
 by_cases h0:sgR F k=((1:Int):Rat)
 ·(
 have hr1:r=0:=hr0.2 h0
 have hz0:z=0:=by rw[ae hz2,if_pos h0]
 subst hr1 hz0
 clear hr0 h0 hz2
 go_wp2
 go_ret
 exact⟨rfl,ae B4⟩)
 ·(
 have hr1:(r != 0)=true:=by simpa using fun h=>h0 (hr0.1 h)
 have hz0:z=10:=by rw[ae hz2,if_neg h0]
 subst hz0
 clear hr0 h0 hz2
 go_wp2
 go_ret
 exact⟨rfl,ae B4⟩))))
theorem zkz (v:Value) (fs:List Rat) (w:World) (c:Nat) (hr:zn w v fs) (hn:fs.length≤1000) (lf:∀ f ∈ fs,Len f c) (hc:c≤100) :
   Calls prog 29 #[v] w fun e w'=>e=.returned (.int .i64 (ni fs))∧But [] w w':=by(
 obtain⟨z,hz⟩:∃ z,z=ni fs:=⟨_,rfl⟩
 rw[← hz]
 have HZ:=af hz
 have bw:But [] w w:=But.refl _ _
 have SH:Hid (1≤fs.length→fs.length≤201→Calls prog 95 #[v,.int .i64 ((fs.length:Nat):Int)] w fun e w'=>e=.returned (.int .i64 z)∧But [] w w'):=fun h1 h2=>zmo v fs w c hr h1 h2 lf hc z (by rw[hz];unfold ni;rw[if_neg (by omega)])
 have H4:Hid (fs.length<1∨201<fs.length→z=4):=fun h=>by rw[hz];unfold ni;rw[if_pos h]
 obtain⟨a,cap,rfl,-⟩:=hr.open
 clear hz HZ hr lf
 generalize fs.length=n at *
 by_cases h1:n<1
 ·(
 obtain rfl:=ae H4 (.inl h1)
 clear SH H4
 go_enter func29,ntmps29
 go_wp2
 go_ret
 exact⟨rfl,bw⟩)
 ·(
 by_cases h2:201<n
 ·(
 obtain rfl:=ae H4 (.inr h2)
 clear SH H4
 go_enter func29,ntmps29
 go_wp2
 go_ret
 exact⟨rfl,bw⟩)
 ·(
 have h3:¬ n > 201:=h2
 have S:=af (ae SH (by omega) (by omega))
 clear SH H4
 go_enter func29,ntmps29
 go_wp2_with fail
 refine (ae S).mono ?_
 rintro e w2 ⟨rfl,hb2⟩
 have B2:=af hb2
 clear hb2 S
 go_wp2
 go_ret
 exact⟨rfl,ae B2⟩)))
theorem zn.take {w:World} {a:Option Addr} {n cap:Nat} {fs:List Rat} (h:zn w (.slice a n cap) fs) (k:Nat) (hk:k≤n):zn w (.slice a k cap) (fs.take k):=by(
 obtain⟨a',cap',e,h1,h2⟩:=h
 simp only[Value.slice.injEq] at e
 obtain⟨rfl,rfl,rfl⟩:=e
 refine⟨a,cap,by rw[List.length_take,Nat.min_eq_left hk],by rw[List.length_take];omega,fun i f hi=>h2 i f ?_⟩
 rw[List.getElem?_take] at hi
 split at hi
 ·exact hi
 ·exact absurd hi (by simp))
set_option linter.unusedVariables false
theorem zeo (v:Value) (fs:List Rat) (F:Nat→Rat) (a:Nat) (w:World) (hr:zn w v fs) (hF:∀ i,i<fs.length→fs[i]? = some (F i)) (hn:fs.length≤201) (lf:∀ i,i<fs.length→qd (F i) 200) (ha:a≤201) :
   Calls prog 50 #[v,.int .i64 (a:Int)] w fun e w'=>∃ zb,e=.returned (.pointer (some ⟨zb,0,none⟩))∧zi w' zb (sgR (fun i=>if a<i then ((((i:Int)-(a:Int):Int)):Rat)*F i else 0) fs.length)∧But [] w w':=by(
 obtain⟨G,hG⟩:∃ G:Nat→Rat,G=fun i=>if a<i then ((((i:Int)-(a:Int):Int)):Rat)*F i else 0:=⟨_,rfl⟩
 have lm:∀ i,i<fs.length→qd (G i) 203:=fun i hi=>by
  rw[hG]
  show qd (if a<i then ((((i:Int)-(a:Int):Int)):Rat)*F i else 0) 203
  split
  ·exact ((qd.int (by omega)).mul (lf i hi)).mono (by omega)
  ·exact (qd.int (z:=0) (by decide)).mono (by omega)
 have ls:∀ k,k≤fs.length→qd (sgR G k) 100000:=fun k hk=>(zcj (F:=G) (c:=203) k (fun i hi=>lm i (by omega))).mono (by
  have:k*(203+1)≤201*204:=Nat.mul_le_mul (by omega) (Nat.le_refl _)
  omega)
 have I0:=af (zfh 0 w (by omega) (by omega))
 have IN:=af (fun (z:Int) (W:World) (h:-1000000≤z∧z<1000000)=>zfh z W (by omega) (by omega))
 have AD:=af (fun (k:Nat) (W:World) (x y:Nat) (h:k<fs.length) (hx:zi W x (sgR G k)) (hy:zi W y (G k))=>zpa x y _ _ W hx hy ((ls k (by omega)).mono (by omega)) ((lm k h).mono (by omega)))
 have MU:=af (fun (k:Nat) (W:World) (x y:Nat) (h:k<fs.length) (hc:a<k) (hx:zi W x (((((k:Int)-(a:Int)):Int):Rat))) (hy:zi W y (F k))=>show Calls prog 28 #[.pointer (some ⟨x,0,none⟩),.pointer (some ⟨y,0,none⟩)] W fun e w'=>∃ zb,e=.returned (.pointer (some ⟨zb,0,none⟩))∧zi w' zb (G k)∧But [] W w' by
  have h2:=qec x y _ _ W hx hy ((qd.int (by omega)).mono (by omega)) ((lf k h).mono (by omega))
  have eG:G k=(((((k:Int)-(a:Int)):Int):Rat))*F k:=by rw[hG];exact if_pos hc
  rw[eG]
  exact h2)
 have SK:=af (fun (k:Nat) (h:¬ a<k)=>show sgR G k=sgR G (k+1) by
  have e0:G k=0:=by rw[hG];exact if_neg h
  show _=sgR G k+G k
  rw[e0]
  grind)
 rw[← hG]
 obtain⟨a0,cap,rfl,hcap,hV⟩:=zdr hr hF
 have HV:=af hV
 clear hV hr hF lf lm ls
 obtain⟨n,hnn⟩:∃ n,n=fs.length:=⟨_,rfl⟩
 rw[← hnn] at hn hcap HV AD MU
 rw[← hnn]
 clear hnn hG
 go_enter func50,ntmps50
 go_wp2_with fail
 refine (ae I0).mono ?_
 rintro e w1 ⟨g0,rfl,h0,hb0⟩
 have S1:Hid (zi w1 g0 (sgR G 0)∧But [] w w1):=⟨h0,hb0⟩
 clear h0 hb0 I0
 go_wp2
 go_loopw [5,11] (fun p i wr=>∃ (k pb:Nat),k≤n∧i=.int .i64 (k:Int)∧p=.pointer (some ⟨pb,0,none⟩)∧Hid (zi wr pb (sgR G k)∧But [] w wr)) (fun _ i _=>n-(intOf i).toNat)
 case atStart=>exact⟨0,g0,Nat.zero_le _,rfl,rfl,ae S1⟩
 case round =>(
 obtain⟨k,pb,hk,rfl,rfl,HI⟩:=hrel
 rename World=>wr
 clear S1
 by_cases hlt:k<n
 ·(
 obtain⟨b,off,g,rfl,c0,hT⟩:=ae HV wr (ae HI).2 k hlt
 have HB:=af (ae HI).2
 have T0:=af hT
 have P0:=af (ae HI).1
 clear hT HI
 by_cases hak:a<k
 ·(
 have hak2:(a:Int)<(k:Int):=by omega
 go_wp2_with fail
 refine (ae IN ((k:Int)-(a:Int)) _ (by omega)).mono ?_
 rintro e w2 ⟨g2,rfl,h2,hb⟩
 replace HB:=af ((ae HB).trans' hb)
 replace T0:=af ((ae T0).but hb)
 replace P0:=af ((ae P0).but hb)
 have H2:=af (h2)
 clear h2 hb
 go_wp2_with fail
 refine (ae MU k _ _ _ hlt hak (ae H2) (ae T0)).mono ?_
 rintro e w3 ⟨g3,rfl,h3,hb⟩
 replace HB:=af ((ae HB).trans' hb)
 replace P0:=af ((ae P0).but hb)
 have H3:=af (h3)
 clear h3 hb H2 T0
 go_wp2_with fail
 refine (ae AD k _ _ _ hlt (ae P0) (ae H3)).mono ?_
 rintro e w4 ⟨g4,rfl,h4,hb⟩
 replace HB:=af ((ae HB).trans' hb)
 have N4:=af (h4)
 clear h4 hb H3 P0
 have N5:Hid (zi w4 g4 (sgR G (k+1))∧But [] w w4):=⟨ae N4,ae HB⟩
 clear N4 HB
 go_wp2
 exact⟨⟨k+1,g4,by omega,by go_num,rfl,ae N5⟩,by simp[intOf];omega⟩)
 ·(
 have hak2:¬ (a:Int)<(k:Int):=by omega
 have N5:Hid (zi wr pb (sgR G (k+1))∧But [] w wr):=⟨by rw[← ae SK k hak];exact ae P0,ae HB⟩
 clear P0 HB T0
 go_wp2
 exact⟨⟨k+1,pb,by omega,by go_num,rfl,ae N5⟩,by simp[intOf];omega⟩))
 ·obtain rfl:k=n:=by omega
  go_wp2
  go_ret
  exact⟨pb,rfl,(ae HI).1,(ae HI).2⟩))
end Go.Proofs.YtagmkkiagjmimaaGreatDoor
