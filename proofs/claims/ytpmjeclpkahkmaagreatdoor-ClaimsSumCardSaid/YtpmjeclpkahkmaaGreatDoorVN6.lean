/- The product of two whole numbers, word b -/
import Derived.Test.YtpmjeclpkahkmaaGreatDoorVN4
namespace Go.Proofs.YtpmjeclpkahkmaaGreatDoor
set_option linter.unusedVariables false
open Go.Proofs.Tryz
open Go.RowKit
set_option maxHeartbeats 2000000
set_option maxRecDepth 100000
theorem Seg.sub {w:World} {g o:Nat} {rs:List Nat} (h:Seg w g o rs) (i n:Nat) (hn:i+n≤rs.length):Seg w g (o+i) ((rs.drop i).take n):=⟨fun j hj=>by
 have hj':j<n:=by simp only[List.length_take] at hj;omega
 have:=h (i+j) (by omega)
 rw[List.getElem?_take_of_lt hj',List.getElem?_drop,show o+i+j=o+(i+j) from by omega]
 exact this,fun h0=>h.ints (by simp only[List.length_take,List.length_drop] at h0;omega)⟩
theorem zli (rs:List Nat) (i n:Nat) (_h:i+n≤rs.length):rs=rs.take i++(rs.drop i).take n++rs.drop (i+n):=by
 rw[List.append_assoc,← List.drop_drop,List.take_append_drop,List.take_append_drop]
theorem zci (B:Nat):∀ (rs:List Nat),(∀ j,j<rs.length→rs[j]?.getD 0=0)→vl B rs=0
 | [],_=>rfl
 | x::rs,h=>by
  have h0:=h 0 (by simp)
  simp only[List.getElem?_cons_zero,Option.getD_some] at h0
  rw[vl,h0,zci B rs (fun j hj=>by have:=h (j+1) (by simpa using hj);simpa using this)]
  simp
structure zey (xs ys rs:List Nat) (k:Nat):Prop where
 len:rs.length=xs.length+ys.length
 mem:∀ x ∈ rs,x < 18446744073709551616
 val:vl 18446744073709551616 rs=vl 18446744073709551616 xs*vl 18446744073709551616 (ys.take k)
 zero:∀ j,k+xs.length≤j→rs[j]?.getD 0=0
theorem zey.start (xs ys:List Nat):zey xs ys (List.replicate (xs.length+ys.length) 0) 0 :=
 ⟨by simp,by intro x hx;rw[List.mem_replicate] at hx;omega,by simp[ja,vl],by
  intro j _
  rcases Nat.lt_or_ge j (xs.length+ys.length) with h | h
  ·rw[List.getElem?_replicate,if_pos h];rfl
  ·rw[List.getElem?_replicate,if_neg (by omega)];rfl⟩
theorem zey.step {xs ys rs:List Nat} {k:Nat} (h:zey xs ys rs k) (hk:k<ys.length) (ws:List Nat) (c:Nat) (hc:c < 18446744073709551616) (hl:ws.length=xs.length) (hm:∀ x ∈ ws,x < 18446744073709551616)
  (hv:vl 18446744073709551616 ws+c * 18446744073709551616^xs.length=vl 18446744073709551616 ((rs.drop k).take xs.length)+ys[k]?.getD 0*vl 18446744073709551616 xs) :
  zey xs ys ((rs.take k++ws++rs.drop (k+xs.length)).set (k+xs.length) c) (k+1):=by(
have hlen:=h.len
have hn:k+xs.length≤rs.length:=by omega
have lt:(rs.take k).length=k:=by rw[List.length_take];omega
have lw:(rs.take k++ws).length=k+xs.length:=by rw[List.length_append,lt,hl]
have ll:(rs.take k++ws++rs.drop (k+xs.length)).length=xs.length+ys.length:=by rw[List.length_append,lw,List.length_drop];omega
have hz:vl 18446744073709551616 (rs.drop (k+xs.length))=0:=zci _ _ (fun j hj=>by rw[List.getElem?_drop];exact h.zero _ (by omega))
have hd0:(rs.take k++ws++rs.drop (k+xs.length))[k+xs.length]?.getD 0=0:=by
 rw[List.getElem?_append_right (by omega),lw,List.getElem?_drop];exact h.zero _ (by omega)
refine⟨by rw[List.length_set,ll],mem_set ?_ _ _ hc,?_,fun j hj=>?_⟩
·(
intro x hx
simp only[List.mem_append] at hx
rcases hx with (hx | hx) | hx
·exact h.mem x (List.mem_of_mem_take hx)
·exact hm x hx
·exact h.mem x (List.mem_of_mem_drop hx))
·(
have h1:=l5 18446744073709551616 (rs.take k++ws++rs.drop (k+xs.length)) (k+xs.length) c (by omega)
rw[hd0,Nat.zero_mul,Nat.add_zero] at h1
rw[h1,zt,hz,Nat.mul_zero,Nat.add_zero,zt,lt,qw 18446744073709551616 ys k hk,Nat.mul_add,← h.val]
have h2:=congrArg (vl 18446744073709551616) (zli rs k xs.length hn)
rw[zt,hz,Nat.mul_zero,Nat.add_zero,zt,lt] at h2
rw[h2,Nat.pow_add]
generalize vl 18446744073709551616 ((rs.drop k).take xs.length)=a at *
generalize vl 18446744073709551616 ws=b at *
generalize vl 18446744073709551616 (rs.take k)=d at *
generalize ys[k]?.getD 0=y at *
generalize vl 18446744073709551616 xs=X at *
generalize 18446744073709551616^xs.length=Q at *
generalize 18446744073709551616^k=P at *
have h3:P*(b+c*Q)=P*(a+y*X):=by rw[hv]
grind)
·rw[List.getElem?_set_ne (by omega),List.getElem?_append_right (by omega),lw,List.getElem?_drop,show k+xs.length+(j-(k+xs.length))=j from by omega]
 exact h.zero j (by omega))
theorem zey.fin {xs ys rs:List Nat} (h:zey xs ys rs ys.length):vl 18446744073709551616 rs=vl 18446744073709551616 xs*vl 18446744073709551616 ys:=by rw[h.val,List.take_length]
theorem zfm (wx:World) (n m:Nat) (h:n+m<2147483648):(Instr.makeSlice 130 (.int .i64 ((n:Int)+(m:Int))) (.int .i64 ((n:Int)+(m:Int)))).run prog wx=.ok (.slice (some ⟨wx.heap.size,0,none⟩) (n+m) (n+m)) (wx.alloc (.cells (madeCells #[.int .u64 0] (n+m)) 24)):=by(
have:=ve wx (n+m) h
rw[Int.natCast_add] at this
exact this)
theorem zrl (va vb:Value) (xs ys:List Nat) (w:World) (ha:Sl .u64 w va xs) (hb:Sl .u64 w vb ys) (mx:∀ x ∈ xs,x < 18446744073709551616) (my:∀ x ∈ ys,x < 18446744073709551616) (h0:0<xs.length) (h0':0<ys.length) (hl:xs.length<536870912) (hl':ys.length<536870912) :
  Calls prog 247 #[va,vb] w fun e w'=>∃ v',e=.returned v'∧Sl .u64 w' v' (wd 18446744073709551616 (vl 18446744073709551616 xs*vl 18446744073709551616 ys))∧But [] w w'∧ui w.heap.size v':=by(
obtain⟨b1,o1,c1,rfl,hc1⟩:∃ b o c,va=.slice (some ⟨b,o,none⟩) xs.length c∧xs.length≤c:=by
 rcases ha.open with ⟨rfl,-⟩|⟨-,b,o,c,e,h,-⟩
 ·simp at h0
 ·exact⟨b,o,c,e,h⟩
rcases hb.open with ⟨rfl,-⟩|⟨-,b2,o2,c2,rfl,hc2,hb2,hcell⟩
·simp at h0'
have hmk:=fun wx=>zfm wx xs.length ys.length (by omega)
have hof:Off w.heap.size (.slice (some ⟨b1,o1,none⟩) xs.length c1):=ug ha h0 _ (Nat.le_refl _)
have HC:=af hcell
have HO:=af hof
have HA:=af ha
have MX:=af mx
have MY:=af my
clear hcell hof ha hb mx my
go_enter func247,ntmps247
go_wp2
go_loopw [16] (fun i wr=>∃ (k:Nat) (rs:List Nat),k≤ys.length∧i=.int .i64 k∧Hid (zey xs ys rs k∧But [] w wr∧Seg wr w.heap.size 0 rs∧w.heap.size<wr.heap.size)) (fun i _=>ys.length-(intOf i).toNat)
case atStart=>exact⟨0,List.replicate (xs.length+ys.length) 0,Nat.zero_le _,rfl,zey.start xs ys,(But.refl _ _).alloc _,Seg.made _ _ _,by simp⟩
case round =>(
obtain⟨k,rs,hk,rfl,HI⟩:=hrel
rename World=>wr
by_cases hlt:k<ys.length
·(
have cy:=(ae HI).2.1.ag (ae HC k hlt) (by simp)
have hyB:ys[k]?.getD 0 < 18446744073709551616:=cf (ae MY) (by omega) k
have hlen:=(ae HI).1.len
have hsub:=(ae HI).2.2.1.sub k xs.length (by omega)
have hsl:((rs.drop k).take xs.length).length=xs.length:=by rw[List.length_take,List.length_drop];omega
have hat:=zsb w.heap.size (0+k) (xs.length+ys.length-k) ((rs.drop k).take xs.length) xs (.slice (some ⟨b1,o1,none⟩) xs.length c1) (ys[k]?.getD 0) wr hsub (by rw[hsl];omega) ((ae HA).ah (ae HI).2.1) (fun _=>ae HO) (fun x hx=>(ae HI).1.mem x (List.mem_of_mem_drop (List.mem_of_mem_take hx))) (ae MX) hyB hsl (by rw[hsl];omega)
rw[hsl,Nat.zero_add] at hat
have HAT:=af hat
have HLEN:=af hlen
have ST:=af (fun ws c h1 h2 h3 h4=>(ae HI).1.step hlt ws c h1 h2 h3 h4)
clear hsub hsl hat hlen
generalize ys[k]?.getD 0=y at *
go_wp2_with fail
refine (ae HAT).mono ?_
rintro e w1 ⟨c,ws,rfl,hc,hlw,hmw,hvw,hsg,hpt⟩
have hM:=ae ST ws c hc hlw hmw hvw
have hW:=(ae HI).2.2.1.whole hpt hsg hlw (by rw[ae HLEN];omega)
have hlen1:k+xs.length<(rs.take k++ws++rs.drop (k+xs.length)).length:=by have:=hM.len;rw[List.length_set] at this;omega
have hset:=hW.set (k+xs.length) hlen1 c
rw[Nat.zero_add] at hset
obtain⟨cc,fc⟩:=hW (k+xs.length) hlen1
rw[Nat.zero_add] at cc fc
have HB1:Hid (But [] w w1):=(ae HI).2.1.trans hpt.but (fun x hx=>by simp at hx;subst hx;exact .inr (Nat.le_refl _))
have HSET:=af hset
have HM1:=af hM
have hsz:Hid (w.heap.size<w1.heap.size):=Nat.lt_of_lt_of_le (ae HI).2.2.2 hpt.but.size
clear hM hW hlen1 hset hpt hsg hvw HAT ST
generalize (rs.take k++ws++rs.drop (k+xs.length))[k+xs.length]?.getD 0=z at cc
go_wp2
refine⟨⟨k+1,(rs.take k++ws++rs.drop (k+xs.length)).set (k+xs.length) c,by omega,by go_num,ae HM1,(ae HB1).setCell (.inr (Nat.le_refl _)) _,ae HSET,by rw[World.size_setCell];exact ae hsz⟩,?_⟩
simp[intOf];omega)
·(
have hke:k=ys.length:=by omega
subst hke
have hO:=(ae HI).1
have hS:=(ae HI).2.2.1.sl (xs.length+ys.length) (by rw[hO.len];exact Nat.le_refl _)
rw[hO.len] at hS
have HS:=af hS
have HM:=af hO.mem
have HL:rs.length<2147483648:=by rw[hO.len];omega
have HF:=af hO.fin
clear hO hS HC
go_wp2_with fail
refine (z8 _ rs _ (ae HS) (ae HM) HL).mono ?_
rintro e w' ⟨v',rfl,hs,hw,hsb⟩
obtain rfl:=hw.symm
clear hw
rw[ae HF] at hs
have H1:=af hs
have H2:=af hsb
clear hs hsb
go_wp2
go_ret
exact⟨v',rfl,ae H1,(ae HI).2.1,eu (ae H2) (Nat.le_refl _)⟩)))
theorem zqn (n X:Nat):(wd 18446744073709551616 X).drop n=wd 18446744073709551616 (X / 18446744073709551616^n):=by(
induction n generalizing X with
| zero=>simp
| succ n ih =>
 rcases Nat.eq_zero_or_pos X with h | h
 ·subst h;simp[zi]
 ·rw[zcg (by omega) h,List.drop_succ_cons,ih,Nat.div_div_eq_div_mul,Nat.pow_succ,Nat.mul_comm 18446744073709551616])
theorem qmi (xs:List Nat) (n:Nat) (h:∀ x ∈ xs,x < 18446744073709551616):vl 18446744073709551616 (xs.take n)=vl 18446744073709551616 xs % 18446744073709551616^n:=by(
have h1:vl 18446744073709551616 xs=vl 18446744073709551616 (xs.take n) + 18446744073709551616^(xs.take n).length*vl 18446744073709551616 (xs.drop n):=by rw[← zt,List.take_append_drop]
have h2:=oz (by omega:0 < 18446744073709551616) (xs.take n) (fun x hx=>h x (List.mem_of_mem_take hx))
rcases Nat.lt_or_ge n xs.length with hn | hn
·have e:(xs.take n).length=n:=by rw[List.length_take];omega
 rw[e] at h1 h2
 rw[h1,Nat.add_mul_mod_self_left,Nat.mod_eq_of_lt h2]
·rw[List.take_of_length_le hn] at h2 ⊢
 rw[Nat.mod_eq_of_lt (Nat.lt_of_lt_of_le h2 (Nat.pow_le_pow_right (by omega) hn))])
theorem zxu (n X:Nat):vl 18446744073709551616 ((wd 18446744073709551616 X).take n)=X % 18446744073709551616^n:=by rw[qmi _ _ (zn (by omega) X),qg (by omega)]
theorem xh (n X:Nat):(wd 18446744073709551616 (X / 18446744073709551616^n)).length=(wd 18446744073709551616 X).length-n:=by rw[← zqn,List.length_drop]
theorem zmg (n X:Nat):(wd 18446744073709551616 (X % 18446744073709551616^n)).length≤n:=aj (by omega) _ _ (Nat.mod_lt _ (Nat.pow_pos (by omega)))
theorem av {X Y:Nat} (h:X≤Y):(wd 18446744073709551616 X).length≤(wd 18446744073709551616 Y).length:=aj (by omega) X _ (Nat.lt_of_le_of_lt h (ak (by omega) Y _ (Nat.le_refl _)))
theorem zsk (n X:Nat):(wd 18446744073709551616 (X % 18446744073709551616^n)).length≤(wd 18446744073709551616 X).length:=av (Nat.mod_le _ _)
theorem Sl.take {k:IntKind} {w:World} {b off cap:Nat} {xs:List Nat} (h:Sl k w (.slice (some ⟨b,off,none⟩) xs.length cap) xs) (n c:Nat) (hn:n≤xs.length) (hc:n≤c):Sl k w (.slice (some ⟨b,off,none⟩) n c) (xs.take n):=by(
have hl:(xs.take n).length=n:=by rw[List.length_take];omega
have hI:=h.ints
obtain⟨a,cap',e,-,h1,-⟩:=h
have h2:=Sl.mk (k:=k) (w:=w) (xs:=xs.take n) b off c (by omega) (fun i hi=>by
 obtain⟨b2,off2,e2,h3⟩:=h1 i (by omega)
 simp only[Value.slice.injEq] at e
 obtain⟨rfl,-,-⟩:=e
 simp only[Option.some.injEq,Addr.mk.injEq] at e2
 obtain⟨rfl,rfl,-⟩:=e2
 rw[zjn xs n i (by omega)];exact h3) (fun h0=>hI (by omega))
rw[hl] at h2
exact h2)
theorem Sl.drop {k:IntKind} {w:World} {b off cap:Nat} {xs:List Nat} (h:Sl k w (.slice (some ⟨b,off,none⟩) xs.length cap) xs) (n m c:Nat) (hm:m=xs.length-n) (hc:m≤c):Sl k w (.slice (some ⟨b,off+n,none⟩) m c) (xs.drop n):=by(
have hl:(xs.drop n).length=m:=by rw[List.length_drop];omega
have hI:=h.ints
obtain⟨a,cap',e,-,h1,-⟩:=h
have h2:=Sl.mk (k:=k) (w:=w) (xs:=xs.drop n) b (off+n) c (by omega) (fun i hi=>by
 obtain⟨b2,off2,e2,h3⟩:=h1 (n+i) (by omega)
 simp only[Value.slice.injEq] at e
 obtain⟨rfl,-,-⟩:=e
 simp only[Option.some.injEq,Addr.mk.injEq] at e2
 obtain⟨rfl,rfl,-⟩:=e2
 rw[List.getElem?_drop,Nat.add_assoc];exact h3) (fun h0=>hI (by omega))
rw[hl] at h2
exact h2)
theorem zeq (v:Value) (X n:Nat) (w:World) (hv:Sl .u64 w v (wd 18446744073709551616 X)) (hl:(wd 18446744073709551616 X).length<2147483648) (hn:n<2147483648) :
  Calls prog 290 #[v,.int .i64 (n:Int)] w fun e w'=>∃ v',e=.returned v'∧Sl .u64 w v' (wd 18446744073709551616 (X % 18446744073709551616^n))∧w'=w:=by(
by_cases hle:(wd 18446744073709551616 X).length≤n
·(
have e:X % 18446744073709551616^n=X:=Nat.mod_eq_of_lt (ak (by omega) X n hle)
rw[e]
have HV:=af hv
obtain⟨a,c,rfl,-,-⟩:=hv
clear e
generalize (wd 18446744073709551616 X).length=l at *
go_enter func290,ntmps290
go_wp2
go_ret
exact⟨_,rfl,ae HV,rfl⟩)
·(
rcases hv.open with ⟨e,-⟩|⟨h0,b,off,c,rfl,hc,-,-⟩
·rw[e] at hle;simp at hle
have ht:=z8 (.slice (some ⟨b,off,none⟩) n c) ((wd 18446744073709551616 X).take n) w (hv.take n c (by omega) (by omega)) (fun x hx=>zn (by omega) X x (List.mem_of_mem_take hx)) (by rw[List.length_take];omega)
rw[zxu] at ht
have HT:=af ht
clear ht hv
generalize (wd 18446744073709551616 X).length=l at *
have hnl:n<l:=by omega
have hnc:n≤c:=by omega
go_enter func290,ntmps290
go_wp2_with fail
refine (ae HT).mono ?_
rintro e w1 ⟨v',rfl,h1,hw,-⟩
obtain rfl:=hw.symm
clear hw
have H1:=af h1
clear h1
go_wp2
go_ret
exact⟨v',rfl,ae H1,rfl⟩))
theorem uh (v:Value) (X n:Nat) (w:World) (hv:Sl .u64 w v (wd 18446744073709551616 X)) (_hl:(wd 18446744073709551616 X).length<2147483648) (hn:n<2147483648) :
  Calls prog 291 #[v,.int .i64 (n:Int)] w fun e w'=>∃ v',e=.returned v'∧Sl .u64 w v' (wd 18446744073709551616 (X / 18446744073709551616^n))∧w'=w:=by(
by_cases hle:(wd 18446744073709551616 X).length≤n
·(
have e:X / 18446744073709551616^n=0:=Nat.div_eq_of_lt (ak (by omega) X n hle)
rw[e,zi]
obtain⟨a,c,rfl,-,-⟩:=hv
clear e
generalize (wd 18446744073709551616 X).length=l at *
go_enter func291,ntmps291
go_wp2
go_ret
exact⟨_,rfl,Sl.nil _ _,rfl⟩)
·(
rcases hv.open with ⟨e,-⟩|⟨h0,b,off,c,rfl,hc,-,-⟩
·rw[e] at hle;simp at hle
have HR:=af (hv.drop n ((wd 18446744073709551616 X).length-n) (c-n) rfl (by omega))
rw[zqn] at HR
clear hv
generalize (wd 18446744073709551616 X).length=l at *
have hnl:n<l:=by omega
have hnc:n<c:=by omega
go_enter func291,ntmps291
go_wp2
go_ret
exact⟨_,rfl,ae HR,rfl⟩))
def Own (lo:Nat) (w:World) (v:Value):Prop:=∀ b off n c,v=.slice (some ⟨b,off,none⟩) n c→lo≤b∧∀ i,i<n→w.frozen? ⟨b,off+i,none⟩=false
theorem zrf {w:World} {g lo n c:Nat} {rs ys:List Nat} {v:Value} (hs:Seg w g 0 rs) (hb:zcw (.slice (some ⟨g,0,none⟩) n c) v) (hv:Sl .u64 w v ys) (hl:ys.length≤rs.length) (hg:lo≤g):Own lo w v:=fun b off m c' e=>by
 obtain⟨n',c'',e'⟩:=hb b off m c' e
 simp only[Value.slice.injEq,Option.some.injEq,Addr.mk.injEq] at e'
 obtain⟨⟨rfl,rfl,-⟩,-,-⟩:=e'
 obtain⟨a,cap,e2,-,-⟩:=hv
 rw[e] at e2
 simp only[Value.slice.injEq] at e2
 obtain⟨-,rfl,-⟩:=e2
 exact⟨hg,fun i hi=>(hs i (by omega)).2⟩
theorem Own.mono {lo lo':Nat} {w:World} {v:Value} (h:Own lo w v) (hl:lo'≤lo):Own lo' w v:=fun b off n c e=>⟨Nat.le_trans hl (h b off n c e).1,(h b off n c e).2⟩
theorem qit (lo:Nat) (w:World) (c:Nat):Own lo w (.slice none 0 c):=fun b off n c e=>by simp at e
theorem set_drop (rs:List Nat) (i s:Nat) (h:i<rs.length):(rs.set i s).drop i=s::rs.drop (i+1):=by
 rw[List.drop_eq_getElem_cons (by rw[List.length_set];exact h),List.getElem_set_self,List.drop_set]
 simp
theorem qdm (x c n:Nat) (hx:x < 18446744073709551616) (hn0:0<n) (hn:n≤63) (hc:c<2^n):(x*2^n % 18446744073709551616) ||| c=x*2^n % 18446744073709551616+c∧x*2^n % 18446744073709551616+c < 18446744073709551616∧x*2^n % 18446744073709551616+c + 18446744073709551616*(x/2^(64-n))=x*2^n+c∧x/2^(64-n)<2^n:=by(
have hp:18446744073709551616=2^(64-n)*2^n:=by rw[← Nat.pow_add,show (64-n)+n=64 from by omega]
have e0:x*2^n % 18446744073709551616=x%2^(64-n)*2^n:=by rw[hp,Nat.mul_mod_mul_right]
have e1:x*2^n / 18446744073709551616=x/2^(64-n):=by rw[hp,Nat.mul_div_mul_right _ _ (Nat.pow_pos (by omega))]
have h1:x%2^(64-n)+1≤2^(64-n):=Nat.mod_lt _ (Nat.pow_pos (by omega))
have h2:=Nat.mul_le_mul_right (2^n) h1
rw[← hp,Nat.add_mul,Nat.one_mul] at h2
have h3:=Nat.div_add_mod (x*2^n) 18446744073709551616
rw[e1] at h3
refine⟨?_,?_,?_,?_⟩
·rw[e0,Nat.mul_comm,Nat.two_pow_add_eq_or_of_lt hc]
·rw[e0]
 generalize x%2^(64-n)*2^n=m at *
 generalize 2^n=P at *
 omega
·generalize x*2^n=z at *
 generalize x/2^(64-n)=y at *
 omega
·rw[Nat.div_lt_iff_lt_mul (Nat.pow_pos (by omega)),Nat.mul_comm,← hp];exact hx)
theorem qdl (x r n:Nat) (hx:x < 18446744073709551616) (hn0:0<n) (hn:n≤63) (hr:r<2^n):(x/2^n) ||| (r*2^(64-n))=x/2^n+r*2^(64-n)∧x/2^n+r*2^(64-n) < 18446744073709551616∧(x + 18446744073709551616*r)/2^n=x/2^n+r*2^(64-n)∧x*2^(64-n) % 18446744073709551616=(x%2^n)*2^(64-n)∧r*2^(64-n) < 18446744073709551616:=by(
have hp:18446744073709551616=2^(64-n)*2^n:=by rw[← Nat.pow_add,show (64-n)+n=64 from by omega]
have hb:x/2^n<2^(64-n):=by rw[Nat.div_lt_iff_lt_mul (Nat.pow_pos (by omega)),← hp];exact hx
have h1:(r+1)*2^(64-n)≤2^n*2^(64-n):=Nat.mul_le_mul_right _ hr
rw[Nat.mul_comm (2^n),← hp,Nat.add_mul,Nat.one_mul] at h1
refine⟨?_,?_,?_,?_,?_⟩
rotate_left
·generalize r*2^(64-n)=m at *
 generalize 2^(64-n)=P at *
 omega
rotate_left
rotate_left
·have hz:0<2^(64-n):=Nat.pow_pos (by omega)
 generalize r*2^(64-n)=m at *
 generalize 2^(64-n)=P at *
 omega
·rw[Nat.or_comm,Nat.mul_comm r,← Nat.two_pow_add_eq_or_of_lt hb,Nat.add_comm]
·rw[hp,Nat.mul_assoc,Nat.mul_left_comm,Nat.add_mul_div_left _ _ (Nat.pow_pos (by omega)),Nat.mul_comm r]
·rw[hp,Nat.mul_comm (2^(64-n)) (2^n),Nat.mul_mod_mul_right])
structure zbz (xs rs:List Nat) (n k c:Nat):Prop where
 len:rs.length=xs.length+1
 mem:∀ x ∈ rs,x < 18446744073709551616
 val:vl 18446744073709551616 rs+c * 18446744073709551616^k=2^n*vl 18446744073709551616 (xs.take k)
 zero:∀ j,k≤j→rs[j]?.getD 0=0
theorem zbz.start (xs:List Nat) (n:Nat):zbz xs (List.replicate (xs.length+1) 0) n 0 0 :=
 ⟨by simp,fun x hx=>by rw[List.mem_replicate] at hx;omega,by simp[ja,vl],fun j _=>by rw[List.getElem?_replicate];split <;> rfl⟩
theorem zbz.step {xs rs:List Nat} {n k c:Nat} (h:zbz xs rs n k c) (hk:k<xs.length) (s c':Nat) (hs:s < 18446744073709551616) (e:s + 18446744073709551616*c'=xs[k]?.getD 0*2^n+c):zbz xs (rs.set k s) n (k+1) c':=by(
have hl:=h.len
refine⟨by rw[List.length_set];exact hl,mem_set h.mem _ _ hs,?_,fun j hj=>by rw[List.getElem?_set_ne (by omega)];exact h.zero j (by omega)⟩
have h1:=zvf 18446744073709551616 rs k c s c' (xs[k]?.getD 0*2^n) 0 (2^n*vl 18446744073709551616 (xs.take k)) (by omega) (by rw[h.val,Nat.zero_add]) (by rw[h.zero k (Nat.le_refl _),e,Nat.zero_add])
rw[h1,Nat.zero_add,qw 18446744073709551616 xs k hk,Nat.mul_add]
congr 1
rw[Nat.mul_comm (xs[k]?.getD 0),Nat.mul_assoc])
theorem zbz.fin {xs rs:List Nat} {n c:Nat} (h:zbz xs rs n xs.length c):vl 18446744073709551616 (rs.set xs.length c)=vl 18446744073709551616 xs*2^n:=by(
have h1:=l5 18446744073709551616 rs xs.length c (by have:=h.len;omega)
have h2:=h.val
rw[h.zero _ (Nat.le_refl _),Nat.zero_mul,Nat.add_zero] at h1
rw[List.take_length] at h2
rw[h1,h2,Nat.mul_comm])
theorem zky (v:Value) (X n:Nat) (w:World) (hv:Sl .u64 w v (wd 18446744073709551616 X)) (hl:(wd 18446744073709551616 X).length<1073741824) (hn:n≤63) :
  Calls prog 275 #[v,.int .i64 (n:Int)] w fun e w'=>∃ v',e=.returned v'∧Sl .u64 w' v' (wd 18446744073709551616 (X*2^n))∧But [] w w'∧(v'=v∨Own w.heap.size w' v'):=by(
rcases Nat.eq_zero_or_pos n with h0 | h0
·(
subst h0
rw[Nat.pow_zero,Nat.mul_one]
have HV:=af hv
obtain⟨a,c,rfl,-,-⟩:=hv
generalize (wd 18446744073709551616 X).length=l at *
go_enter func275,ntmps275
go_wp2
go_ret
exact⟨_,rfl,ae HV,But.refl _ _,.inl rfl⟩)
·(
have nz:((n:Int)==0)=false:=beq_eq_false_iff_ne.2 (by omega)
have mm:=zn (B:=18446744073709551616) (by omega) X
have em:=qg (B:=18446744073709551616) (by omega) X
rcases hv.open with ⟨e,a,c,rfl⟩|⟨hp,b,off,c,rfl,hc,hbl,hcell⟩
·(
have hX:X=0:=(dm (by omega) X).1 e
subst hX
rw[Nat.zero_mul,zi]
clear mm em e hv
go_enter func275,ntmps275
go_wp2
go_ret
exact⟨_,rfl,⟨a,c,rfl,Nat.zero_le _,fun i hi=>by simp at hi,fun _ _ _ h0=>by simp at h0⟩,But.refl _ _,.inl rfl⟩)
·(
generalize wd 18446744073709551616 X=xs at *
subst em
have lz0:((xs.length:Int)==0)=false:=beq_eq_false_iff_ne.2 (by omega)
have hmk:=fun wx=>zfl wx xs.length hl
have HC:=af hcell
have MM:=af mm
clear hcell mm hv
go_enter func275,ntmps275
go_wp2
go_loopw [6,23] (fun c i wr=>∃ (k cN:Nat) (rs:List Nat),k≤xs.length∧i=.int .i64 k∧c=.int .u64 cN∧cN < 18446744073709551616∧rs.length=xs.length+1∧Hid (zbz xs rs n k cN∧cN<2^n∧But [] w wr∧Seg wr w.heap.size 0 rs)) (fun _ i _=>xs.length-(intOf i).toNat)
case atStart=>exact⟨0,0,List.replicate (xs.length+1) 0,Nat.zero_le _,rfl,rfl,by omega,by simp,zbz.start xs n,Nat.pow_pos (by omega),(But.refl _ _).alloc _,Seg.made _ _ _⟩
case round =>(
obtain⟨k,cN,rs,hk,rfl,rfl,hcN,hrl,HI⟩:=hrel
rename World=>wr
by_cases hlt:k<xs.length
·(
have cx:=(ae HI).2.2.1.ag (ae HC k hlt) (by simp)
have hxB:xs[k]?.getD 0 < 18446744073709551616:=cf (ae MM) (by omega) k
obtain⟨cr,fr⟩:=(ae HI).2.2.2 k (by omega)
rw[Nat.zero_add] at cr fr
obtain⟨s1,s2,s3,s4⟩:=qdm _ cN n hxB h0 hn (ae HI).2.1
have ST:=af ((ae HI).1.step hlt _ _ s2 s3)
have S4:=af s4
have hsl:xs[k]?.getD 0/2^(64-n) < 18446744073709551616:=Nat.lt_of_le_of_lt (Nat.div_le_self _ _) hxB
have E1:bits .or .u64 (IntKind.u64.wrap ((xs[k]?.getD 0:Nat)*2^n)) (cN:Int)=((xs[k]?.getD 0*2^n % 18446744073709551616+cN:Nat):Int):=by
 have e1:IntKind.u64.wrap (((xs[k]?.getD 0:Nat):Int)*2^n)=((xs[k]?.getD 0*2^n % 18446744073709551616:Nat):Int):=by
  have e:((xs[k]?.getD 0:Nat):Int)*2^n=((xs[k]?.getD 0*2^n:Nat):Int):=by simp
  rw[e,IntKind.wrap_u64];omega
 rw[e1,bits_or_u64_nat _ _ (by omega) hcN,s1]
have E2:((xs[k]?.getD 0:Nat):Int)/2^(64-n)=((xs[k]?.getD 0/2^(64-n):Nat):Int):=by simp
clear s1 s3 s4
generalize xs[k]?.getD 0*2^n % 18446744073709551616+cN=s at *
generalize xs[k]?.getD 0/2^(64-n)=c' at *
generalize xs[k]?.getD 0=x at *
generalize rs[k]?.getD 0=r at cr
have hset:=(ae HI).2.2.2.set k (by omega) s
rw[Nat.zero_add] at hset
have HSET:=af hset
clear hset
go_wp2
refine⟨⟨k+1,c',rs.set k s,by omega,by go_num,rfl,hsl,by rw[List.length_set];exact hrl,ae ST,ae S4,(ae HI).2.2.1.setCell (.inr (Nat.le_refl _)) _,ae HSET⟩,?_⟩
simp[intOf];omega)
·(
have hke:k=xs.length:=by omega
subst hke
have hset:=(ae HI).2.2.2.set xs.length (by omega) cN
obtain⟨cr,fr⟩:=(ae HI).2.2.2 xs.length (by omega)
rw[Nat.zero_add] at cr fr hset
have hsl:=hset.sl (xs.length+1) (by rw[List.length_set];omega)
rw[List.length_set,hrl] at hsl
have HSL:=af hsl
have HSG:=af hset
have HMM:=af (mem_set (ae HI).1.mem xs.length cN hcN)
have HF:=af (ae HI).1.fin
have hln:(rs.set xs.length cN).length<2147483648:=by rw[List.length_set];omega
have HB:=af ((ae HI).2.2.1.setCell (p:=⟨w.heap.size,xs.length,none⟩) (.inr (Nat.le_refl _)) (.int .u64 (cN:Int)))
clear hset hsl HC HI
generalize rs[xs.length]?.getD 0=r at cr
go_wp2_with fail
refine (z8 _ (rs.set xs.length cN) _ (ae HSL) (ae HMM) hln).mono ?_
rintro e w1 ⟨v1,rfl,hv1,hw,hsb⟩
obtain rfl:=hw.symm
clear hw
have OW:=af (zrf (ae HSG) hsb hv1 (aj (by omega) _ _ (oz (by omega) _ (ae HMM))) (Nat.le_refl _))
rw[ae HF] at hv1
have HV1:=af hv1
clear hv1 hsb
go_wp2
go_ret
exact⟨v1,rfl,ae HV1,ae HB,.inr (ae OW)⟩)))))
structure zak (xs rs:List Nat) (n k c:Nat):Prop where
 len:rs.length=xs.length
 mem:∀ x ∈ rs,x < 18446744073709551616
 val:vl 18446744073709551616 (rs.drop k)=vl 18446744073709551616 (xs.drop k)/2^n
 car:c=vl 18446744073709551616 (xs.drop k)%2^n*2^(64-n)
theorem zak.start (xs:List Nat) (n:Nat):zak xs (List.replicate xs.length 0) n xs.length 0 :=
 ⟨by simp,fun x hx=>by rw[List.mem_replicate] at hx;omega,by simp[vl],by simp[vl]⟩
theorem zak.step {xs rs:List Nat} {n i c:Nat} (h:zak xs rs n (i+1) c) (hi:i<xs.length) (hn:n≤63) (s c':Nat) (hs:s < 18446744073709551616) (e:(xs[i]?.getD 0 + 18446744073709551616*(vl 18446744073709551616 (xs.drop (i+1))%2^n))/2^n=s) (ec:xs[i]?.getD 0%2^n*2^(64-n)=c'):zak xs (rs.set i s) n i c':=by(
have hp:18446744073709551616=2^n*2^(64-n):=by rw[← Nat.pow_add,show n+(64-n)=64 from by omega]
have hz:0<2^n:=Nat.pow_pos (by omega)
refine⟨by rw[List.length_set];exact h.len,mem_set h.mem _ _ hs,?_,?_⟩
·(
rw[set_drop rs i s (by rw[h.len];exact hi),vl,h.val,ko 18446744073709551616 xs i hi,← e]
have hd:=Nat.mod_add_div (vl 18446744073709551616 (xs.drop (i+1))) (2^n)
generalize vl 18446744073709551616 (xs.drop (i+1))=V at *
have e1:xs[i]?.getD 0 + 18446744073709551616*V=xs[i]?.getD 0 + 18446744073709551616*(V%2^n)+2^n*(18446744073709551616*(V/2^n)):=by
 conv=>lhs;rw[← hd]
 rw[Nat.mul_add,← Nat.add_assoc,Nat.mul_left_comm]
rw[e1,Nat.add_mul_div_left _ _ hz])
·rw[ko 18446744073709551616 xs i hi,hp,Nat.mul_assoc,Nat.add_mul_mod_self_left,← ec])
theorem zak.fin {xs rs:List Nat} {n c:Nat} (h:zak xs rs n 0 c):vl 18446744073709551616 rs=vl 18446744073709551616 xs/2^n:=h.val
theorem zri (v:Value) (X n:Nat) (w:World) (hv:Sl .u64 w v (wd 18446744073709551616 X)) (hl:(wd 18446744073709551616 X).length<1073741824) (hn:n≤63) :
  Calls prog 276 #[v,.int .i64 (n:Int)] w fun e w'=>∃ v',e=.returned v'∧Sl .u64 w' v' (wd 18446744073709551616 (X/2^n))∧But [] w w'∧(v'=v∨Own w.heap.size w' v'):=by(
rcases Nat.eq_zero_or_pos n with h0 | h0
·(
subst h0
rw[Nat.pow_zero,Nat.div_one]
have HV:=af hv
obtain⟨a,c,rfl,-,-⟩:=hv
generalize (wd 18446744073709551616 X).length=l at *
go_enter func276,ntmps276
go_wp2
go_ret
exact⟨_,rfl,ae HV,But.refl _ _,.inl rfl⟩)
·(
have nz:((n:Int)==0)=false:=beq_eq_false_iff_ne.2 (by omega)
have mm:=zn (B:=18446744073709551616) (by omega) X
have em:=qg (B:=18446744073709551616) (by omega) X
rcases hv.open with ⟨e,a,c,rfl⟩|⟨hp,b,off,c,rfl,hc,hbl,hcell⟩
·(
have hX:X=0:=(dm (by omega) X).1 e
subst hX
rw[Nat.zero_div,zi]
clear mm em e hv
go_enter func276,ntmps276
go_wp2
go_ret
exact⟨_,rfl,⟨a,c,rfl,Nat.zero_le _,fun i hi=>by simp at hi,fun _ _ _ h0=>by simp at h0⟩,But.refl _ _,.inl rfl⟩)
·(
generalize wd 18446744073709551616 X=xs at *
subst em
have lz0:((xs.length:Int)==0)=false:=beq_eq_false_iff_ne.2 (by omega)
have hmk:=fun wx=>ve wx xs.length (by omega)
have HC:=af hcell
have MM:=af mm
clear hcell mm hv
go_enter func276,ntmps276
go_wp2
go_loopw [6,7] (fun c i wr=>∃ (k cN:Nat) (rs:List Nat),k≤xs.length∧i=.int .i64 ((k:Int)-1)∧c=.int .u64 cN∧cN < 18446744073709551616∧rs.length=xs.length∧Hid (zak xs rs n k cN∧But [] w wr∧Seg wr w.heap.size 0 rs)) (fun _ i _=>(intOf i+1).toNat)
case atStart=>exact⟨xs.length,0,List.replicate xs.length 0,Nat.le_refl _,rfl,rfl,by omega,by simp,zak.start xs n,(But.refl _ _).alloc _,Seg.made _ _ _⟩
case round =>(
obtain⟨k,cN,rs,hk,rfl,rfl,hcN,hrl,HI⟩:=hrel
rename World=>wr
by_cases hk0:k=0
·(
subst hk0
have hsl:=(ae HI).2.2.sl xs.length (by omega)
rw[hrl] at hsl
have HSL:=af hsl
have HF:=af (ae HI).1.fin
have hln:rs.length<2147483648:=by omega
clear hsl HC
go_wp2_with fail
refine (z8 _ rs _ (ae HSL) (ae HI).1.mem hln).mono ?_
rintro e w1 ⟨v1,rfl,hv1,hw,hsb⟩
obtain rfl:=hw.symm
clear hw
have hown:=zrf (lo:=w.heap.size) (ae HI).2.2 hsb hv1 (by have:=aj (B:=18446744073709551616) (by omega) (vl 18446744073709551616 rs) rs.length (oz (by omega) rs (ae HI).1.mem);exact this) (Nat.le_refl _)
rw[ae HF] at hv1
have HV1:=af hv1
have HOW:=af hown
clear hv1 hown hsb
go_wp2
go_ret
exact⟨v1,rfl,ae HV1,(ae HI).2.1,.inr (ae HOW)⟩)
·(
obtain⟨i,rfl⟩:∃ i,k=i+1:=⟨k-1,by omega⟩
have cx:=(ae HI).2.1.ag (ae HC i (by omega)) (by simp)
have hxB:xs[i]?.getD 0 < 18446744073709551616:=cf (ae MM) (by omega) i
obtain⟨cr,fr⟩:=(ae HI).2.2 i (by omega)
rw[Nat.zero_add] at cr fr
have hc:=(ae HI).1.car
obtain⟨s1,s2,s3,s4,s5⟩:=qdl _ (vl 18446744073709551616 (xs.drop (i+1))%2^n) n hxB h0 hn (Nat.mod_lt _ (Nat.pow_pos (by omega)))
have ST:=af ((ae HI).1.step (by omega) hn _ _ s2 s3 rfl)
rw[← hc] at s1 s2 ST
have E1:bits .or .u64 ((xs[i]?.getD 0:Nat)/2^n) (cN:Int)=((xs[i]?.getD 0/2^n+cN:Nat):Int):=by
 have e:((xs[i]?.getD 0:Nat):Int)/2^n=((xs[i]?.getD 0/2^n:Nat):Int):=by simp
 rw[e,bits_or_u64_nat _ _ (Nat.lt_of_le_of_lt (Nat.div_le_self _ _) hxB) hcN,s1]
have E2:IntKind.u64.wrap (((xs[i]?.getD 0:Nat):Int)*2^(64-n))=((xs[i]?.getD 0%2^n*2^(64-n):Nat):Int):=by
 have e:((xs[i]?.getD 0:Nat):Int)*2^(64-n)=((xs[i]?.getD 0*2^(64-n):Nat):Int):=by simp
 rw[e,IntKind.wrap_u64,← s4];omega
have hc'B:xs[i]?.getD 0%2^n*2^(64-n) < 18446744073709551616:=by rw[← s4];omega
clear s1 s3 s4 s5 hc
generalize xs[i]?.getD 0%2^n*2^(64-n)=c' at *
generalize xs[i]?.getD 0/2^n+cN=s at *
generalize xs[i]?.getD 0=x at *
generalize rs[i]?.getD 0=r at cr
have hset:=(ae HI).2.2.set i (by omega) s
rw[Nat.zero_add] at hset
have HSET:=af hset
clear hset
rw[show (((i+1:Nat):Int)-1)=(i:Int) from by omega]
go_wp2
refine⟨⟨i,c',rs.set i s,by omega,rfl,rfl,hc'B,by rw[List.length_set];exact hrl,ae ST,(ae HI).2.1.setCell (.inr (Nat.le_refl _)) _,ae HSET⟩,?_⟩
simp[intOf])))))
theorem zei (u:Nat) (h0:0<u) (hu:u < 18446744073709551616):wd 18446744073709551616 u=[u]:=by rw[zcg (by omega) h0,Nat.mod_eq_of_lt hu,Nat.div_eq_of_lt hu,zi]
theorem jh (u:Nat) (hu:u < 18446744073709551616) (w:World) :
  Calls prog 166 #[.int .u64 u] w fun e w'=>∃ v,e=.returned v∧Sl .u64 w' v (wd 18446744073709551616 u)∧But [] w w'∧Own w.heap.size w' v:=by(
by_cases h0:u=0
·(
subst h0
go_enter func166,ntmps166
go_wp2
go_ret
exact⟨_,rfl,by rw[zi];exact Sl.nil _ _,But.refl _ _,qit _ _ _⟩)
·(
have n0:((u:Int)==0)=false:=by simp;exact h0
go_enter func166,ntmps166
go_wp2
go_ret
refine⟨_,rfl,?_,(But.refl _ _).alloc _,?_⟩
·(
rw[zei u (by omega) hu]
exact Sl.mk (xs:=[u]) w.heap.size 0 1 (by simp) (fun i hi=>by
 have:i=0:=by simpa using hi
 subst this;simp) (fun _ i v hv=>by
 rw[World.cell?_alloc_new] at hv
 rcases i with _ | i
 ·exact⟨u,by simpa using hv.symm⟩
 ·simp at hv))
·intro b off n c e
 simp at e
 obtain⟨⟨rfl,rfl,-⟩,-,-⟩:=e
 exact⟨Nat.le_refl _,fun i _=>by simp⟩))
theorem zgi {w:World} {v:Value} {u:Nat} (h:Sl .u64 w v (wd 18446744073709551616 u)) (hu:u < 18446744073709551616):(u=0∧∃ a c,v=.slice a 0 c)∨(0<u∧∃ b off c,v=.slice (some ⟨b,off,none⟩) 1 c∧w.cell? ⟨b,off,none⟩=some (.int .u64 u)):=by(
rcases Nat.eq_zero_or_pos u with h0 | h0
·subst h0
 rw[zi] at h
 obtain⟨a,c,e,-⟩:=h
 exact .inl ⟨rfl,a,c,e⟩
·rw[zei u h0 hu] at h
 rcases h.open with ⟨e,-⟩|⟨-,b,off,c,e,-,-,hc⟩
 ·simp at e
 ·exact .inr ⟨h0,b,off,c,e,hc 0 (by simp)⟩)
theorem zej (u:Nat) (hu:18446744073709551616≤u):2≤(wd 18446744073709551616 u).length:=by(
rcases Nat.lt_or_ge (wd 18446744073709551616 u).length 2 with h | h
·have:=ak (B:=18446744073709551616) (by omega) u 1 (by omega)
 omega
·exact h)
theorem zbf (v:Value) (u:Nat) (hu:u < 18446744073709551616) (w:World) (hv:Sl .u64 w v (wd 18446744073709551616 u)) :
  Calls prog 168 #[v] w fun e w'=>e=.returned (.tuple #[.int .u64 u,.bool true])∧w'=w:=by(
rcases zgi hv hu with ⟨rfl,a,c,rfl⟩|⟨h0,b,off,c,rfl,hc⟩
·go_enter func168,ntmps168
 go_wp2
 go_ret2
 exact⟨rfl,rfl⟩
·go_enter func168,ntmps168
 go_wp2
 go_ret2
 exact⟨rfl,rfl⟩)
theorem zae (v:Value) (u:Nat) (hu:18446744073709551616≤u) (w:World) (hv:Sl .u64 w v (wd 18446744073709551616 u)) (hl:(wd 18446744073709551616 u).length<2147483648) :
  Calls prog 168 #[v] w fun e w'=>e=.returned (.tuple #[.int .u64 0,.bool false])∧w'=w:=by(
have h2:=zej u hu
obtain⟨a,c,rfl,-,-⟩:=hv
generalize (wd 18446744073709551616 u).length=l at *
have n0:((l:Int)==0)=false:=beq_eq_false_iff_ne.2 (by omega)
have n1:((l:Int)==1)=false:=beq_eq_false_iff_ne.2 (by omega)
clear hu
go_enter func168,ntmps168
go_wp2
go_ret2
exact⟨rfl,rfl⟩)
theorem mo (v:Value) (u:Nat) (w:World) (hv:Sl .u64 w v (wd 18446744073709551616 u)) (hl:(wd 18446744073709551616 u).length<2147483648) (r:Bool) (hr:Hid (r=decide (u=1))) :
  Calls prog 88 #[v] w fun e w'=>e=.returned (.bool r)∧w'=w:=by(
rcases Nat.lt_or_ge u 18446744073709551616 with hu | hu
·(
rcases zgi hv hu with ⟨rfl,a,c,rfl⟩|⟨h0,b,off,c,rfl,hc⟩
·(
have e:Hid (r=false):=by show _=_;rw[ae hr];rfl
clear hr
go_enter func88,ntmps88
go_wp2
go_ret
exact⟨by rw[ae e];rfl,rfl⟩)
·(
have e:((u:Int)==1)=r:=by rw[ae hr,Bool.eq_iff_iff];simp;omega
clear hr
go_enter func88,ntmps88
go_wp2
go_ret
exact⟨rfl,rfl⟩))
·(
have e:Hid (r=false):=by show _=_;rw[ae hr];simp;omega
have h2:=zej u hu
clear hr hu
obtain⟨a,c,rfl,-,-⟩:=hv
generalize (wd 18446744073709551616 u).length=l at *
have n1:((l:Int)==1)=false:=beq_eq_false_iff_ne.2 (by omega)
go_enter func88,ntmps88
go_wp2
go_ret
exact⟨by rw[ae e];rfl,rfl⟩))
structure Leh (a0 b0 a b xx xy yx yy:Nat) (back:Bool):Prop where
 i1:a*yy+b*xy=a0
 i2:a*yx+b*xx=b0
 det:if back then xy*yx=xx*yy+1 else xx*yy=xy*yx+1
 le:yx≤yy
structure Good (a b xx xy yx yy:Nat):Prop where
 p1:0<xy
 p2:0<yx
 p3:xx≤xy
 p4:yy≤b
 p5:b+(xy+yy)≤a
theorem Leh.start (a b:Nat):Leh a b a b 1 0 0 1 false:=⟨by omega,by omega,by simp,by omega⟩
def Lst (a0 b0 a b xx xy yx yy:Nat) (back:Bool):Prop:=Leh a0 b0 a b xx xy yx yy back∧b≤a∧((xx=1∧xy=0∧yx=0∧yy=1)∨Good a b xx xy yx yy)
theorem Lst.yy {a0 b0 a b xx xy yx yy:Nat} {back:Bool} (h:Lst a0 b0 a b xx xy yx yy back):0<yy:=by(
obtain⟨h1,-,h2 | h2⟩:=h
·omega
·have:=h1.le;have:=h2.p2;omega)
theorem Lst.next {a0 b0 a b xx xy yx yy:Nat} {back:Bool} (h:Lst a0 b0 a b xx xy yx yy back) (q b':Nat) (e:a=q*b+b') (hb':b' < b) :
  Leh a0 b0 b b' yx yy (xx+q*yx) (xy+q*yy) (!back)∧0<xx+q*yx∧yx≤yy:=by(
obtain⟨h1,hba,h2⟩:=h
have hq:1≤q:=by
 rcases Nat.eq_zero_or_pos q with h0 | h0
 ·subst h0;omega
 ·exact h0
have hle:xx+q*yx≤xy+q*yy:=by
 rcases h2 with h2 | h2
 ·obtain⟨rfl,rfl,rfl,rfl⟩:=h2;omega
 ·exact Nat.add_le_add h2.p3 (Nat.mul_le_mul_left _ h1.le)
have hp:0<xx+q*yx:=by
 rcases h2 with h2 | h2
 ·omega
 ·have:=Nat.mul_le_mul hq h2.p2;omega
refine⟨⟨?_,?_,?_,hle⟩,hp,h1.le⟩
·rw[← h1.i1,e];grind
·rw[← h1.i2,e];grind
·have:=h1.det
 cases back <;> simp at this ⊢ <;> grind)
theorem Leh.bound {a0 b0 a b xx xy yx yy:Nat} {back:Bool} (h:Leh a0 b0 a b xx xy yx yy back) (ha:0<a):yy≤a0∧yx≤b0:=by(
have h1:=h.i1
have h2:=h.i2
have h3:=Nat.mul_le_mul_right yy ha
have h4:=Nat.mul_le_mul_right yx ha
omega)
theorem Leh.qhc {a0 b0 a b xx xy yx yy:Nat} {back:Bool} (h:Leh a0 b0 a b xx xy yx yy back) (ha:0<a) (hb:0<b):xy+yy≤a0:=by(
have h1:=h.i1
have h3:=Nat.mul_le_mul_right yy ha
have h4:=Nat.mul_le_mul_right xy hb
omega)
theorem Lst.taken {a0 b0 a b xx xy yx yy:Nat} {back:Bool} (h:Lst a0 b0 a b xx xy yx yy back) (q b':Nat) (e:a=q*b+b') (hb':b' < b) (c1:xy+q*yy≤b') (c2:yy+(xy+q*yy)≤b-b'):Lst a0 b0 b b' yx yy (xx+q*yx) (xy+q*yy) (!back):=by
 obtain⟨n1,n2,n3⟩:=h.next q b' e hb'
 exact⟨n1,by omega,.inr ⟨h.yy,n2,n3,c1,by omega⟩⟩
theorem zyv (x y X Y p q r s:Nat) (hx:X*p+Y*q=x) (hy:X*r+Y*s=y) (hd:∀ d,d ∣ x→d ∣ y→d ∣ X∧d ∣ Y):Nat.gcd X Y=Nat.gcd x y:=by(
apply Nat.dvd_antisymm
·apply Nat.dvd_gcd
 ·rw[← hx];exact Nat.dvd_add (Nat.dvd_mul_right_of_dvd (Nat.gcd_dvd_left _ _) _) (Nat.dvd_mul_right_of_dvd (Nat.gcd_dvd_right _ _) _)
 ·rw[← hy];exact Nat.dvd_add (Nat.dvd_mul_right_of_dvd (Nat.gcd_dvd_left _ _) _) (Nat.dvd_mul_right_of_dvd (Nat.gcd_dvd_right _ _) _)
·obtain⟨h1,h2⟩:=hd _ (Nat.gcd_dvd_left x y) (Nat.gcd_dvd_right x y)
 exact Nat.dvd_gcd h1 h2)
theorem Leh.apply {a0 b0 a b xx xy yx yy:Nat} {back:Bool} (h:Leh a0 b0 a b xx xy yx yy back) (g:Good a b xx xy yx yy) (x y K ε δ:Nat) (hx:x=a0*K+ε) (hy:y=b0*K+δ) (hε:ε<K) (hδ:δ<K) :
  ∃ X Y:Nat,(if back then X+xx*x=xy*y∧Y+yy*y=yx*x else X+xy*y=xx*x∧Y+yx*x=yy*y)∧Y<X∧X≤y∧Nat.gcd X Y=Nat.gcd x y:=by(
obtain⟨i1,i2,det,le⟩:=h
obtain⟨p1,p2,p3,p4,p5⟩:=g
have m1:yy*δ≤b*K:=Nat.mul_le_mul p4 (Nat.le_of_lt hδ)
have m2:yx*ε≤b*K:=Nat.mul_le_mul (Nat.le_trans le p4) (Nat.le_of_lt hε)
have m3:(xy+yy)*(δ+1)≤(a-b)*K:=Nat.mul_le_mul (by omega) hδ
have m4:(xx+yx)*(ε+1)≤(a-b)*K:=Nat.mul_le_mul (by omega) hε
have m5:(a-b)*K+b*K=a*K:=by rw[← Nat.add_mul];congr 1;omega
cases back
·(
simp only[Bool.false_eq_true,if_false] at det ⊢
have e1:yy*b0=yx*a0+b:=by rw[← i1,← i2];grind
have e2:xx*a0=xy*b0+a:=by rw[← i1,← i2];grind
have f1:yy*y=yx*a0*K+b*K+yy*δ:=by rw[hy];grind
have f2:yx*x=yx*a0*K+yx*ε:=by rw[hx];grind
have f3:xx*x=xy*b0*K+a*K+xx*ε:=by rw[hx];grind
have f4:xy*y=xy*b0*K+xy*δ:=by rw[hy];grind
have g1:(xy+yy)*(δ+1)=xy*δ+yy*δ+xy+yy:=by grind
obtain⟨Y,hY⟩:∃ Y,Y+yx*x=yy*y:=⟨yy*y-yx*x,by omega⟩
obtain⟨X,hX⟩:∃ X,X+xy*y=xx*x:=⟨xx*x-xy*y,by omega⟩
have hYX:Y<X:=by omega
have hx2:X*yy+Y*xy=x:=by
 have:X*yy+Y*xy+xy*y*yy+yx*x*xy=xx*x*yy+yy*y*xy:=by rw[← hX,← hY];grind
 have e:xx*x*yy=(xy*yx+1)*x:=by rw[← det];grind
 grind
have hy2:X*yx+Y*xx=y:=by
 have:X*yx+Y*xx+xy*y*yx+yx*x*xx=xx*x*yx+yy*y*xx:=by rw[← hX,← hY];grind
 have e:yy*y*xx=(xy*yx+1)*y:=by rw[← det];grind
 grind
refine⟨X,Y,⟨hX,hY⟩,hYX,?_,zyv x y X Y yy xy yx xx hx2 hy2 (fun d d1 d2=>⟨?_,?_⟩)⟩
·rw[← hy2];have:=Nat.le_mul_of_pos_right X p2;omega
·exact (Nat.dvd_add_left (Nat.dvd_mul_left_of_dvd d2 xy)).1 (by rw[hX];exact Nat.dvd_mul_left_of_dvd d1 xx)
·exact (Nat.dvd_add_left (Nat.dvd_mul_left_of_dvd d1 yx)).1 (by rw[hY];exact Nat.dvd_mul_left_of_dvd d2 yy))
·(
simp only[if_true] at det ⊢
have e1:yx*a0=yy*b0+b:=by rw[← i1,← i2];grind
have e2:xy*b0=xx*a0+a:=by rw[← i1,← i2];grind
have f1:yx*x=yy*b0*K+b*K+yx*ε:=by rw[hx];grind
have f2:yy*y=yy*b0*K+yy*δ:=by rw[hy];grind
have f3:xy*y=xx*a0*K+a*K+xy*δ:=by rw[hy];grind
have f4:xx*x=xx*a0*K+xx*ε:=by rw[hx];grind
have g1:(xx+yx)*(ε+1)=xx*ε+yx*ε+xx+yx:=by grind
obtain⟨Y,hY⟩:∃ Y,Y+yy*y=yx*x:=⟨yx*x-yy*y,by omega⟩
obtain⟨X,hX⟩:∃ X,X+xx*x=xy*y:=⟨xy*y-xx*x,by omega⟩
have hYX:Y<X:=by omega
have hx2:X*yy+Y*xy=x:=by
 have:X*yy+Y*xy+xx*x*yy+yy*y*xy=xy*y*yy+yx*x*xy:=by rw[← hX,← hY];grind
 have e:yx*x*xy=(xx*yy+1)*x:=by rw[← det];grind
 grind
have hy2:X*yx+Y*xx=y:=by
 have:X*yx+Y*xx+xx*x*yx+yy*y*xx=xy*y*yx+yx*x*xx:=by rw[← hX,← hY];grind
 have e:xy*y*yx=(xx*yy+1)*y:=by rw[← det];grind
 grind
refine⟨X,Y,⟨hX,hY⟩,hYX,?_,zyv x y X Y yy xy yx xx hx2 hy2 (fun d d1 d2=>⟨?_,?_⟩)⟩
·rw[← hy2];have:=Nat.le_mul_of_pos_right X p2;omega
·exact (Nat.dvd_add_left (Nat.dvd_mul_left_of_dvd d1 xx)).1 (by rw[hX];exact Nat.dvd_mul_left_of_dvd d2 xy)
·exact (Nat.dvd_add_left (Nat.dvd_mul_left_of_dvd d2 yy)).1 (by rw[hY];exact Nat.dvd_mul_left_of_dvd d1 yx)))
theorem zlb (M a b u v:Nat) (ha:a<M) (hb:b<M) (e:a+M*u=b+M*v):a=b:=by(
have h1:(a+M*u)%M=a:=by rw[Nat.add_mul_mod_self_left,Nat.mod_eq_of_lt ha]
have h2:(b+M*v)%M=b:=by rw[Nat.add_mul_mod_self_left,Nat.mod_eq_of_lt hb]
rw[← h1,← h2,e])
theorem zhi (x1 x0 m n l:Nat) (hn:n≤63) (hl:l < 18446744073709551616^m):∃ ε,l + 18446744073709551616^m*(x0 + 18446744073709551616*x1)=(x1*2^n+x0/2^(64-n))*(2^(64-n) * 18446744073709551616^m)+ε∧ε<2^(64-n) * 18446744073709551616^m:=by(
have hp:18446744073709551616=2^n*2^(64-n):=by rw[← Nat.pow_add,show n+(64-n)=64 from by omega]
have h1:=Nat.div_add_mod x0 (2^(64-n))
have h2:x0%2^(64-n)+1≤2^(64-n):=Nat.mod_lt _ (Nat.pow_pos (by omega))
refine⟨x0%2^(64-n) * 18446744073709551616^m+l,?_,?_⟩
·(
have h3:x0 + 18446744073709551616*x1=(x1*2^n+x0/2^(64-n))*2^(64-n)+x0%2^(64-n):=by
 conv=>lhs;rw[← h1]
 rw[hp]
 generalize 2^(64-n)=P
 generalize 2^n=Q
 grind
rw[h3]
generalize (x1*2^n+x0/2^(64-n))=A
generalize 2^(64-n)=P
generalize x0%P=r
generalize 18446744073709551616^m=M
grind)
·have h3:=Nat.mul_le_mul_right (18446744073709551616^m) h2
 rw[Nat.add_mul,Nat.one_mul] at h3
 omega)
theorem zys (a b K ε δ X Y:Nat) (hX:X=a*K+ε) (hY:Y=b*K+δ) (hε:ε<K) (hle:Y≤X):b≤a:=by(
rcases Nat.lt_or_ge a b with h | h
·exfalso
 have:=Nat.mul_le_mul_right K h
 rw[Nat.succ_mul] at this
 omega
·exact h)
structure kz (ps qs ps' qs':List Nat) (c1 c2 c3 c4 k up dn lf rt bo ow:Nat):Prop where
 lp:ps'.length=ps.length
 lq:qs'.length=qs.length
 mp:∀ x ∈ ps',x < 18446744073709551616
 mq:∀ x ∈ qs',x < 18446744073709551616
 dp:ps'.drop k=ps.drop k
 dq:qs'.drop k=qs.drop k
 v1:vl 18446744073709551616 (ps'.take k)+c2*vl 18446744073709551616 (qs.take k)+up * 18446744073709551616^k=c1*vl 18446744073709551616 (ps.take k)+(dn+bo) * 18446744073709551616^k
 v2:vl 18446744073709551616 (qs'.take k)+c3*vl 18446744073709551616 (ps.take k)+rt * 18446744073709551616^k=c4*vl 18446744073709551616 (qs.take k)+(lf+ow) * 18446744073709551616^k
theorem kz.start (ps qs:List Nat) (c1 c2 c3 c4:Nat) (hp:∀ x ∈ ps,x < 18446744073709551616) (hq:∀ x ∈ qs,x < 18446744073709551616):kz ps qs ps qs c1 c2 c3 c4 0 0 0 0 0 0 0 :=
 ⟨rfl,rfl,hp,hq,rfl,rfl,by simp[vl],by simp[vl]⟩
theorem ziy (xs ys:List Nat) (k:Nat) (h:xs.drop k=ys.drop k):xs[k]?.getD 0=ys[k]?.getD 0:=by
 have:=congrArg (fun l:List Nat=>l[0]?.getD 0) h
 simpa [List.getElem?_drop] using this
theorem take_set (rs:List Nat) (k s:Nat) (h:k<rs.length):(rs.set k s).take (k+1)=rs.take k++[s]:=by
 rw[uw _ k (by rw[List.length_set];exact h),List.getElem?_set_self h,List.take_set_of_le (Nat.le_refl k)];rfl
theorem zqd (rs:List Nat) (k s:Nat):(rs.set k s).drop (k+1)=rs.drop (k+1):=List.drop_set_of_lt (by omega)
theorem zxw (rs:List Nat) (k s:Nat) (h:k<rs.length):vl 18446744073709551616 ((rs.set k s).take (k+1))=vl 18446744073709551616 (rs.take k)+s * 18446744073709551616^k:=by
 rw[take_set rs k s h,zt,vl,vl,List.length_take,Nat.min_eq_left (by omega)]
 simp[Nat.mul_comm]
theorem kz.step {ps qs ps' qs':List Nat} {c1 c2 c3 c4 k up dn lf rt bo ow:Nat} (h:kz ps qs ps' qs' c1 c2 c3 c4 k up dn lf rt bo ow) (hk:k<ps.length) (hl:ps.length=qs.length) (s1 s2 up' dn' lf' rt' bo' ow' p1 m1 p2 m2:Nat) (hs1:s1 < 18446744073709551616) (hs2:s2 < 18446744073709551616)
  (e1:c1*ps[k]?.getD 0+up=p1 + 18446744073709551616*up') (e2:c2*qs[k]?.getD 0+dn=m1 + 18446744073709551616*dn') (e3:s1+m1+bo=p1 + 18446744073709551616*bo')
  (e4:c4*qs[k]?.getD 0+rt=p2 + 18446744073709551616*rt') (e5:c3*ps[k]?.getD 0+lf=m2 + 18446744073709551616*lf') (e6:s2+m2+ow=p2 + 18446744073709551616*ow') :
  kz ps qs (ps'.set k s1) (qs'.set k s2) c1 c2 c3 c4 (k+1) up' dn' lf' rt' bo' ow':=by(
have a1:=h.lp
have a2:=h.lq
have d1:ps'.drop (k+1)=ps.drop (k+1):=by have:=congrArg (List.drop 1) h.dp;rwa [List.drop_drop,List.drop_drop] at this
have d2:qs'.drop (k+1)=qs.drop (k+1):=by have:=congrArg (List.drop 1) h.dq;rwa [List.drop_drop,List.drop_drop] at this
refine⟨by rw[List.length_set];exact a1,by rw[List.length_set];exact a2,mem_set h.mp _ _ hs1,mem_set h.mq _ _ hs2,by rw[zqd];exact d1,by rw[zqd];exact d2,?_,?_⟩
·(
rw[zxw _ _ _ (by omega),qw 18446744073709551616 qs k (by omega),qw 18446744073709551616 ps k hk,Nat.pow_succ]
have hv:=h.v1
generalize vl 18446744073709551616 (ps'.take k)=A at *
generalize vl 18446744073709551616 (qs.take k)=Q at *
generalize vl 18446744073709551616 (ps.take k)=P at *
generalize 18446744073709551616^k=M at *
generalize ps[k]?.getD 0=a at *
generalize qs[k]?.getD 0=b at *
have f:(s1+c2*b + 18446744073709551616*up' + dn+bo)*M=(c1*a + 18446744073709551616*dn' + 18446744073709551616*bo' + up)*M:=by congr 1;omega
grind)
·(
rw[zxw _ _ _ (by omega),qw 18446744073709551616 qs k (by omega),qw 18446744073709551616 ps k hk,Nat.pow_succ]
have hv:=h.v2
generalize vl 18446744073709551616 (qs'.take k)=A at *
generalize vl 18446744073709551616 (qs.take k)=Q at *
generalize vl 18446744073709551616 (ps.take k)=P at *
generalize 18446744073709551616^k=M at *
generalize ps[k]?.getD 0=a at *
generalize qs[k]?.getD 0=b at *
have f:(s2+c3*a + 18446744073709551616*rt' + lf+ow)*M=(c4*b + 18446744073709551616*lf' + 18446744073709551616*ow' + rt)*M:=by congr 1;omega
grind))
theorem kz.fin {ps qs ps' qs':List Nat} {c1 c2 c3 c4 up dn lf rt bo ow:Nat} (h:kz ps qs ps' qs' c1 c2 c3 c4 ps.length up dn lf rt bo ow) (hl:ps.length=qs.length) (P' Q' X Y hp hq:Nat)
  (eP:P'=vl 18446744073709551616 ps + 18446744073709551616^ps.length*hp) (eQ:Q'=vl 18446744073709551616 qs + 18446744073709551616^ps.length*hq) (eX:X+c2*Q'=c1*P') (eY:Y+c3*P'=c4*Q') (hX:X < 18446744073709551616^ps.length) (hY:Y < 18446744073709551616^ps.length):vl 18446744073709551616 ps'=X∧vl 18446744073709551616 qs'=Y:=by(
have h1:=h.v1
have h2:=h.v2
have b1:=oz (by omega:0 < 18446744073709551616) ps' h.mp
have b2:=oz (by omega:0 < 18446744073709551616) qs' h.mq
have a1:=h.lp
have a2:=h.lq
rw[a1] at b1
rw[a2,← hl] at b2
rw[List.take_of_length_le (by omega),List.take_of_length_le (by omega),List.take_of_length_le (by omega)] at h1 h2
generalize 18446744073709551616^ps.length=M at *
generalize vl 18446744073709551616 ps'=A at *
generalize vl 18446744073709551616 qs'=C at *
generalize vl 18446744073709551616 ps=P at *
generalize vl 18446744073709551616 qs=Q at *
subst eP eQ
exact⟨zlb M A X (up+c1*hp) (dn+bo+c2*hq) b1 hX (by grind),zlb M C Y (rt+c4*hq) (lf+ow+c3*hp) b2 hY (by grind)⟩)
end Go.Proofs.YtpmjeclpkahkmaaGreatDoor
