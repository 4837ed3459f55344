/- The product of two whole numbers, word b -/
import Derived.Test.YtagmkkiagjmimaaGreatDoorSN3
namespace Go.Proofs.YtagmkkiagjmimaaGreatDoor
set_option linter.unusedVariables false
open Go.Proofs.Tryz
open Go.RowKit
set_option maxHeartbeats 2000000
set_option maxRecDepth 100000
theorem Seg.sub {w:World} {g o:Nat} {rs:List Nat} (h:Seg w g o rs) (i n:Nat) (hn:i+n≤rs.length):Seg w g (o+i) ((rs.drop i).take n):=⟨fun j hj=>by
 have hj':j<n:=by simp only[List.length_take] at hj;omega
 have:=h (i+j) (by omega)
 rw[List.getElem?_take_of_lt hj',List.getElem?_drop,show o+i+j=o+(i+j) from by omega]
 exact this,fun h0=>h.ints (by simp only[List.length_take,List.length_drop] at h0;omega)⟩
theorem ziy (rs:List Nat) (i n:Nat) (_h:i+n≤rs.length):rs=rs.take i++(rs.drop i).take n++rs.drop (i+n):=by
 rw[List.append_assoc,← List.drop_drop,List.take_append_drop,List.take_append_drop]
theorem zav (B:Nat):∀ (rs:List Nat),(∀ j,j<rs.length→rs[j]?.getD 0=0)→vl B rs=0
 | [],_=>rfl
 | x::rs,h=>by
  have h0:=h 0 (by simp)
  simp only[List.getElem?_cons_zero,Option.getD_some] at h0
  rw[vl,h0,zav B rs (fun j hj=>by have:=h (j+1) (by simpa using hj);simpa using this)]
  simp
structure zdo (xs ys rs:List Nat) (k:Nat):Prop where
 len:rs.length=xs.length+ys.length
 mem:∀ x ∈ rs,x < 18446744073709551616
 val:vl 18446744073709551616 rs=vl 18446744073709551616 xs*vl 18446744073709551616 (ys.take k)
 zero:∀ j,k+xs.length≤j→rs[j]?.getD 0=0
theorem zdo.start (xs ys:List Nat):zdo xs ys (List.replicate (xs.length+ys.length) 0) 0 :=
 ⟨by simp,by intro x hx;rw[List.mem_replicate] at hx;omega,by simp[qp,vl],by
  intro j _
  rcases Nat.lt_or_ge j (xs.length+ys.length) with h | h
  ·rw[List.getElem?_replicate,if_pos h];rfl
  ·rw[List.getElem?_replicate,if_neg (by omega)];rfl⟩
theorem zdo.step {xs ys rs:List Nat} {k:Nat} (h:zdo xs ys rs k) (hk:k<ys.length) (ws:List Nat) (c:Nat) (hc:c < 18446744073709551616) (hl:ws.length=xs.length) (hm:∀ x ∈ ws,x < 18446744073709551616)
   (hv:vl 18446744073709551616 ws+c * 18446744073709551616^xs.length=vl 18446744073709551616 ((rs.drop k).take xs.length)+ys[k]?.getD 0*vl 18446744073709551616 xs) :
   zdo xs ys ((rs.take k++ws++rs.drop (k+xs.length)).set (k+xs.length) c) (k+1):=by(
 have hlen:=h.len
 have hn:k+xs.length≤rs.length:=by omega
 have lt:(rs.take k).length=k:=by rw[List.length_take];omega
 have lw:(rs.take k++ws).length=k+xs.length:=by rw[List.length_append,lt,hl]
 have ll:(rs.take k++ws++rs.drop (k+xs.length)).length=xs.length+ys.length:=by rw[List.length_append,lw,List.length_drop];omega
 have hz:vl 18446744073709551616 (rs.drop (k+xs.length))=0:=zav _ _ (fun j hj=>by rw[List.getElem?_drop];exact h.zero _ (by omega))
 have hd0:(rs.take k++ws++rs.drop (k+xs.length))[k+xs.length]?.getD 0=0:=by
  rw[List.getElem?_append_right (by omega),lw,List.getElem?_drop];exact h.zero _ (by omega)
 refine⟨by rw[List.length_set,ll],mem_set ?_ _ _ hc,?_,fun j hj=>?_⟩
 ·(
 intro x hx
 simp only[List.mem_append] at hx
 rcases hx with (hx | hx) | hx
 ·exact h.mem x (List.mem_of_mem_take hx)
 ·exact hm x hx
 ·exact h.mem x (List.mem_of_mem_drop hx))
 ·(
 have h1:=wo 18446744073709551616 (rs.take k++ws++rs.drop (k+xs.length)) (k+xs.length) c (by omega)
 rw[hd0,Nat.zero_mul,Nat.add_zero] at h1
 rw[h1,zt,hz,Nat.mul_zero,Nat.add_zero,zt,lt,qh 18446744073709551616 ys k hk,Nat.mul_add,← h.val]
 have h2:=congrArg (vl 18446744073709551616) (ziy rs k xs.length hn)
 rw[zt,hz,Nat.mul_zero,Nat.add_zero,zt,lt] at h2
 rw[h2,Nat.pow_add]
 generalize vl 18446744073709551616 ((rs.drop k).take xs.length)=a at *
 generalize vl 18446744073709551616 ws=b at *
 generalize vl 18446744073709551616 (rs.take k)=d at *
 generalize ys[k]?.getD 0=y at *
 generalize vl 18446744073709551616 xs=X at *
 generalize 18446744073709551616^xs.length=Q at *
 generalize 18446744073709551616^k=P at *
 have h3:P*(b+c*Q)=P*(a+y*X):=by rw[hv]
 grind)
 ·rw[List.getElem?_set_ne (by omega),List.getElem?_append_right (by omega),lw,List.getElem?_drop,show k+xs.length+(j-(k+xs.length))=j from by omega]
  exact h.zero j (by omega))
theorem zdo.fin {xs ys rs:List Nat} (h:zdo xs ys rs ys.length):vl 18446744073709551616 rs=vl 18446744073709551616 xs*vl 18446744073709551616 ys:=by rw[h.val,List.take_length]
theorem zdw (wx:World) (n m:Nat) (h:n+m<2147483648):(Instr.makeSlice 102 (.int .i64 ((n:Int)+(m:Int))) (.int .i64 ((n:Int)+(m:Int)))).run prog wx=.ok (.slice (some ⟨wx.heap.size,0,none⟩) (n+m) (n+m)) (wx.alloc (.cells (madeCells #[.int .u64 0] (n+m)) 24)):=by(
 have:=xq wx (n+m) h
 rw[Int.natCast_add] at this
 exact this)
theorem zou (va vb:Value) (xs ys:List Nat) (w:World) (ha:Sl .u64 w va xs) (hb:Sl .u64 w vb ys) (mx:∀ x ∈ xs,x < 18446744073709551616) (my:∀ x ∈ ys,x < 18446744073709551616) (h0:0<xs.length) (h0':0<ys.length) (hl:xs.length<536870912) (hl':ys.length<536870912) :
   Calls prog 209 #[va,vb] w fun e w'=>∃ v',e=.returned v'∧Sl .u64 w' v' (wd 18446744073709551616 (vl 18446744073709551616 xs*vl 18446744073709551616 ys))∧But [] w w'∧mi w.heap.size v':=by(
 obtain⟨b1,o1,c1,rfl,hc1⟩:∃ b o c,va=.slice (some ⟨b,o,none⟩) xs.length c∧xs.length≤c:=by
  rcases ha.open with ⟨rfl,-⟩|⟨-,b,o,c,e,h,-⟩
  ·simp at h0
  ·exact⟨b,o,c,e,h⟩
 rcases hb.open with ⟨rfl,-⟩|⟨-,b2,o2,c2,rfl,hc2,hb2,hcell⟩
 ·simp at h0'
 have hmk:=fun wx=>zdw wx xs.length ys.length (by omega)
 have hof:Off w.heap.size (.slice (some ⟨b1,o1,none⟩) xs.length c1):=l9 ha h0 _ (Nat.le_refl _)
 have HC:=af hcell
 have HO:=af hof
 have HA:=af ha
 have MX:=af mx
 have MY:=af my
 clear hcell hof ha hb mx my
 go_enter func209,ntmps209
 go_wp2
 go_loopw [16] (fun i wr=>∃ (k:Nat) (rs:List Nat),k≤ys.length∧i=.int .i64 k∧Hid (zdo xs ys rs k∧But [] w wr∧Seg wr w.heap.size 0 rs∧w.heap.size<wr.heap.size)) (fun i _=>ys.length-(intOf i).toNat)
 case atStart=>exact⟨0,List.replicate (xs.length+ys.length) 0,Nat.zero_le _,rfl,zdo.start xs ys,(But.refl _ _).alloc _,Seg.made _ _ _,by simp⟩
 case round =>(
 obtain⟨k,rs,hk,rfl,HI⟩:=hrel
 rename World=>wr
 by_cases hlt:k<ys.length
 ·(
 have cy:=(ae HI).2.1.ag (ae HC k hlt) (by simp)
 have hyB:ys[k]?.getD 0 < 18446744073709551616:=bt (ae MY) (by omega) k
 have hlen:=(ae HI).1.len
 have hsub:=(ae HI).2.2.1.sub k xs.length (by omega)
 have hsl:((rs.drop k).take xs.length).length=xs.length:=by rw[List.length_take,List.length_drop];omega
 have hat:=zpn w.heap.size (0+k) (xs.length+ys.length-k) ((rs.drop k).take xs.length) xs (.slice (some ⟨b1,o1,none⟩) xs.length c1) (ys[k]?.getD 0) wr hsub (by rw[hsl];omega) ((ae HA).ah (ae HI).2.1) (fun _=>ae HO) (fun x hx=>(ae HI).1.mem x (List.mem_of_mem_drop (List.mem_of_mem_take hx))) (ae MX) hyB hsl (by rw[hsl];omega)
 rw[hsl,Nat.zero_add] at hat
 have HAT:=af hat
 have HLEN:=af hlen
 have ST:=af (fun ws c h1 h2 h3 h4=>(ae HI).1.step hlt ws c h1 h2 h3 h4)
 clear hsub hsl hat hlen
 generalize ys[k]?.getD 0=y at *
 go_wp2_with fail
 refine (ae HAT).mono ?_
 rintro e w1 ⟨c,ws,rfl,hc,hlw,hmw,hvw,hsg,hpt⟩
 have hM:=ae ST ws c hc hlw hmw hvw
 have hW:=(ae HI).2.2.1.whole hpt hsg hlw (by rw[ae HLEN];omega)
 have hlen1:k+xs.length<(rs.take k++ws++rs.drop (k+xs.length)).length:=by have:=hM.len;rw[List.length_set] at this;omega
 have hset:=hW.set (k+xs.length) hlen1 c
 rw[Nat.zero_add] at hset
 obtain⟨cc,fc⟩:=hW (k+xs.length) hlen1
 rw[Nat.zero_add] at cc fc
 have HB1:Hid (But [] w w1):=(ae HI).2.1.trans hpt.but (fun x hx=>by simp at hx;subst hx;exact .inr (Nat.le_refl _))
 have HSET:=af hset
 have HM1:=af hM
 have hsz:Hid (w.heap.size<w1.heap.size):=Nat.lt_of_lt_of_le (ae HI).2.2.2 hpt.but.size
 clear hM hW hlen1 hset hpt hsg hvw HAT ST
 generalize (rs.take k++ws++rs.drop (k+xs.length))[k+xs.length]?.getD 0=z at cc
 go_wp2
 refine⟨⟨k+1,(rs.take k++ws++rs.drop (k+xs.length)).set (k+xs.length) c,by omega,by go_num,ae HM1,(ae HB1).setCell (.inr (Nat.le_refl _)) _,ae HSET,by rw[World.size_setCell];exact ae hsz⟩,?_⟩
 simp[intOf];omega)
 ·(
 have hke:k=ys.length:=by omega
 subst hke
 have hO:=(ae HI).1
 have hS:=(ae HI).2.2.1.sl (xs.length+ys.length) (by rw[hO.len];exact Nat.le_refl _)
 rw[hO.len] at hS
 have HS:=af hS
 have HM:=af hO.mem
 have HL:rs.length<2147483648:=by rw[hO.len];omega
 have HF:=af hO.fin
 clear hO hS HC
 go_wp2_with fail
 refine (zz _ rs _ (ae HS) (ae HM) HL).mono ?_
 rintro e w' ⟨v',rfl,hs,hw,hsb⟩
 obtain rfl:=hw.symm
 clear hw
 rw[ae HF] at hs
 have H1:=af hs
 have H2:=af hsb
 clear hs hsb
 go_wp2
 go_ret
 exact⟨v',rfl,ae H1,(ae HI).2.1,yh (ae H2) (Nat.le_refl _)⟩)))
theorem znw (n X:Nat):(wd 18446744073709551616 X).drop n=wd 18446744073709551616 (X / 18446744073709551616^n):=by(
 induction n generalizing X with
 | zero=>simp
 | succ n ih =>
  rcases Nat.eq_zero_or_pos X with h | h
  ·subst h;simp[zh]
  ·rw[zau (by omega) h,List.drop_succ_cons,ih,Nat.div_div_eq_div_mul,Nat.pow_succ,Nat.mul_comm 18446744073709551616])
theorem qik (xs:List Nat) (n:Nat) (h:∀ x ∈ xs,x < 18446744073709551616):vl 18446744073709551616 (xs.take n)=vl 18446744073709551616 xs % 18446744073709551616^n:=by(
 have h1:vl 18446744073709551616 xs=vl 18446744073709551616 (xs.take n) + 18446744073709551616^(xs.take n).length*vl 18446744073709551616 (xs.drop n):=by rw[← zt,List.take_append_drop]
 have h2:=fe (by omega:0 < 18446744073709551616) (xs.take n) (fun x hx=>h x (List.mem_of_mem_take hx))
 rcases Nat.lt_or_ge n xs.length with hn | hn
 ·have e:(xs.take n).length=n:=by rw[List.length_take];omega
  rw[e] at h1 h2
  rw[h1,Nat.add_mul_mod_self_left,Nat.mod_eq_of_lt h2]
 ·rw[List.take_of_length_le hn] at h2 ⊢
  rw[Nat.mod_eq_of_lt (Nat.lt_of_lt_of_le h2 (Nat.pow_le_pow_right (by omega) hn))])
theorem zvh (n X:Nat):vl 18446744073709551616 ((wd 18446744073709551616 X).take n)=X % 18446744073709551616^n:=by rw[qik _ _ (zo (by omega) X),qg (by omega)]
theorem j3 (n X:Nat):(wd 18446744073709551616 (X / 18446744073709551616^n)).length=(wd 18446744073709551616 X).length-n:=by rw[← znw,List.length_drop]
theorem zjs (n X:Nat):(wd 18446744073709551616 (X % 18446744073709551616^n)).length≤n:=aj (by omega) _ _ (Nat.mod_lt _ (Nat.pow_pos (by omega)))
theorem au {X Y:Nat} (h:X≤Y):(wd 18446744073709551616 X).length≤(wd 18446744073709551616 Y).length:=aj (by omega) X _ (Nat.lt_of_le_of_lt h (ak (by omega) Y _ (Nat.le_refl _)))
theorem zpv (n X:Nat):(wd 18446744073709551616 (X % 18446744073709551616^n)).length≤(wd 18446744073709551616 X).length:=au (Nat.mod_le _ _)
theorem Sl.take {k:IntKind} {w:World} {b off cap:Nat} {xs:List Nat} (h:Sl k w (.slice (some ⟨b,off,none⟩) xs.length cap) xs) (n c:Nat) (hn:n≤xs.length) (hc:n≤c):Sl k w (.slice (some ⟨b,off,none⟩) n c) (xs.take n):=by(
 have hl:(xs.take n).length=n:=by rw[List.length_take];omega
 have hI:=h.ints
 obtain⟨a,cap',e,-,h1,-⟩:=h
 have h2:=Sl.mk (k:=k) (w:=w) (xs:=xs.take n) b off c (by omega) (fun i hi=>by
  obtain⟨b2,off2,e2,h3⟩:=h1 i (by omega)
  simp only[Value.slice.injEq] at e
  obtain⟨rfl,-,-⟩:=e
  simp only[Option.some.injEq,Addr.mk.injEq] at e2
  obtain⟨rfl,rfl,-⟩:=e2
  rw[zhd xs n i (by omega)];exact h3) (fun h0=>hI (by omega))
 rw[hl] at h2
 exact h2)
theorem Sl.drop {k:IntKind} {w:World} {b off cap:Nat} {xs:List Nat} (h:Sl k w (.slice (some ⟨b,off,none⟩) xs.length cap) xs) (n m c:Nat) (hm:m=xs.length-n) (hc:m≤c):Sl k w (.slice (some ⟨b,off+n,none⟩) m c) (xs.drop n):=by(
 have hl:(xs.drop n).length=m:=by rw[List.length_drop];omega
 have hI:=h.ints
 obtain⟨a,cap',e,-,h1,-⟩:=h
 have h2:=Sl.mk (k:=k) (w:=w) (xs:=xs.drop n) b (off+n) c (by omega) (fun i hi=>by
  obtain⟨b2,off2,e2,h3⟩:=h1 (n+i) (by omega)
  simp only[Value.slice.injEq] at e
  obtain⟨rfl,-,-⟩:=e
  simp only[Option.some.injEq,Addr.mk.injEq] at e2
  obtain⟨rfl,rfl,-⟩:=e2
  rw[List.getElem?_drop,Nat.add_assoc];exact h3) (fun h0=>hI (by omega))
 rw[hl] at h2
 exact h2)
theorem zde (v:Value) (X n:Nat) (w:World) (hv:Sl .u64 w v (wd 18446744073709551616 X)) (hl:(wd 18446744073709551616 X).length<2147483648) (hn:n<2147483648) :
   Calls prog 243 #[v,.int .i64 (n:Int)] w fun e w'=>∃ v',e=.returned v'∧Sl .u64 w v' (wd 18446744073709551616 (X % 18446744073709551616^n))∧w'=w:=by(
 by_cases hle:(wd 18446744073709551616 X).length≤n
 ·(
 have e:X % 18446744073709551616^n=X:=Nat.mod_eq_of_lt (ak (by omega) X n hle)
 rw[e]
 have HV:=af hv
 obtain⟨a,c,rfl,-,-⟩:=hv
 clear e
 generalize (wd 18446744073709551616 X).length=l at *
 go_enter func243,ntmps243
 go_wp2
 go_ret
 exact⟨_,rfl,ae HV,rfl⟩)
 ·(
 rcases hv.open with ⟨e,-⟩|⟨h0,b,off,c,rfl,hc,-,-⟩
 ·rw[e] at hle;simp at hle
 have ht:=zz (.slice (some ⟨b,off,none⟩) n c) ((wd 18446744073709551616 X).take n) w (hv.take n c (by omega) (by omega)) (fun x hx=>zo (by omega) X x (List.mem_of_mem_take hx)) (by rw[List.length_take];omega)
 rw[zvh] at ht
 have HT:=af ht
 clear ht hv
 generalize (wd 18446744073709551616 X).length=l at *
 have hnl:n<l:=by omega
 have hnc:n≤c:=by omega
 go_enter func243,ntmps243
 go_wp2_with fail
 refine (ae HT).mono ?_
 rintro e w1 ⟨v',rfl,h1,hw,-⟩
 obtain rfl:=hw.symm
 clear hw
 have H1:=af h1
 clear h1
 go_wp2
 go_ret
 exact⟨v',rfl,ae H1,rfl⟩))
theorem mg (v:Value) (X n:Nat) (w:World) (hv:Sl .u64 w v (wd 18446744073709551616 X)) (_hl:(wd 18446744073709551616 X).length<2147483648) (hn:n<2147483648) :
   Calls prog 244 #[v,.int .i64 (n:Int)] w fun e w'=>∃ v',e=.returned v'∧Sl .u64 w v' (wd 18446744073709551616 (X / 18446744073709551616^n))∧w'=w:=by(
 by_cases hle:(wd 18446744073709551616 X).length≤n
 ·(
 have e:X / 18446744073709551616^n=0:=Nat.div_eq_of_lt (ak (by omega) X n hle)
 rw[e,zh]
 obtain⟨a,c,rfl,-,-⟩:=hv
 clear e
 generalize (wd 18446744073709551616 X).length=l at *
 go_enter func244,ntmps244
 go_wp2
 go_ret
 exact⟨_,rfl,Sl.nil _ _,rfl⟩)
 ·(
 rcases hv.open with ⟨e,-⟩|⟨h0,b,off,c,rfl,hc,-,-⟩
 ·rw[e] at hle;simp at hle
 have HR:=af (hv.drop n ((wd 18446744073709551616 X).length-n) (c-n) rfl (by omega))
 rw[znw] at HR
 clear hv
 generalize (wd 18446744073709551616 X).length=l at *
 have hnl:n<l:=by omega
 have hnc:n<c:=by omega
 go_enter func244,ntmps244
 go_wp2
 go_ret
 exact⟨_,rfl,ae HR,rfl⟩))
def Own (lo:Nat) (w:World) (v:Value):Prop:=∀ b off n c,v=.slice (some ⟨b,off,none⟩) n c→lo≤b∧∀ i,i<n→w.frozen? ⟨b,off+i,none⟩=false
theorem zoo {w:World} {g lo n c:Nat} {rs ys:List Nat} {v:Value} (hs:Seg w g 0 rs) (hb:zbc (.slice (some ⟨g,0,none⟩) n c) v) (hv:Sl .u64 w v ys) (hl:ys.length≤rs.length) (hg:lo≤g):Own lo w v:=fun b off m c' e=>by
 obtain⟨n',c'',e'⟩:=hb b off m c' e
 simp only[Value.slice.injEq,Option.some.injEq,Addr.mk.injEq] at e'
 obtain⟨⟨rfl,rfl,-⟩,-,-⟩:=e'
 obtain⟨a,cap,e2,-,-⟩:=hv
 rw[e] at e2
 simp only[Value.slice.injEq] at e2
 obtain⟨-,rfl,-⟩:=e2
 exact⟨hg,fun i hi=>(hs i (by omega)).2⟩
theorem Own.mono {lo lo':Nat} {w:World} {v:Value} (h:Own lo w v) (hl:lo'≤lo):Own lo' w v:=fun b off n c e=>⟨Nat.le_trans hl (h b off n c e).1,(h b off n c e).2⟩
theorem qfw (lo:Nat) (w:World) (c:Nat):Own lo w (.slice none 0 c):=fun b off n c e=>by simp at e
theorem set_drop (rs:List Nat) (i s:Nat) (h:i<rs.length):(rs.set i s).drop i=s::rs.drop (i+1):=by
 rw[List.drop_eq_getElem_cons (by rw[List.length_set];exact h),List.getElem_set_self,List.drop_set]
 simp
theorem qaq (x c n:Nat) (hx:x < 18446744073709551616) (hn0:0<n) (hn:n≤63) (hc:c<2^n):(x*2^n % 18446744073709551616) ||| c=x*2^n % 18446744073709551616+c∧x*2^n % 18446744073709551616+c < 18446744073709551616∧x*2^n % 18446744073709551616+c + 18446744073709551616*(x/2^(64-n))=x*2^n+c∧x/2^(64-n)<2^n:=by(
 have hp:18446744073709551616=2^(64-n)*2^n:=by rw[← Nat.pow_add,show (64-n)+n=64 from by omega]
 have e0:x*2^n % 18446744073709551616=x%2^(64-n)*2^n:=by rw[hp,Nat.mul_mod_mul_right]
 have e1:x*2^n / 18446744073709551616=x/2^(64-n):=by rw[hp,Nat.mul_div_mul_right _ _ (Nat.pow_pos (by omega))]
 have h1:x%2^(64-n)+1≤2^(64-n):=Nat.mod_lt _ (Nat.pow_pos (by omega))
 have h2:=Nat.mul_le_mul_right (2^n) h1
 rw[← hp,Nat.add_mul,Nat.one_mul] at h2
 have h3:=Nat.div_add_mod (x*2^n) 18446744073709551616
 rw[e1] at h3
 refine⟨?_,?_,?_,?_⟩
 ·rw[e0,Nat.mul_comm,Nat.two_pow_add_eq_or_of_lt hc]
 ·rw[e0]
  generalize x%2^(64-n)*2^n=m at *
  generalize 2^n=P at *
  omega
 ·generalize x*2^n=z at *
  generalize x/2^(64-n)=y at *
  omega
 ·rw[Nat.div_lt_iff_lt_mul (Nat.pow_pos (by omega)),Nat.mul_comm,← hp];exact hx)
theorem qap (x r n:Nat) (hx:x < 18446744073709551616) (hn0:0<n) (hn:n≤63) (hr:r<2^n):(x/2^n) ||| (r*2^(64-n))=x/2^n+r*2^(64-n)∧x/2^n+r*2^(64-n) < 18446744073709551616∧(x + 18446744073709551616*r)/2^n=x/2^n+r*2^(64-n)∧x*2^(64-n) % 18446744073709551616=(x%2^n)*2^(64-n)∧r*2^(64-n) < 18446744073709551616:=by(
 have hp:18446744073709551616=2^(64-n)*2^n:=by rw[← Nat.pow_add,show (64-n)+n=64 from by omega]
 have hb:x/2^n<2^(64-n):=by rw[Nat.div_lt_iff_lt_mul (Nat.pow_pos (by omega)),← hp];exact hx
 have h1:(r+1)*2^(64-n)≤2^n*2^(64-n):=Nat.mul_le_mul_right _ hr
 rw[Nat.mul_comm (2^n),← hp,Nat.add_mul,Nat.one_mul] at h1
 refine⟨?_,?_,?_,?_,?_⟩
 rotate_left
 ·generalize r*2^(64-n)=m at *
  generalize 2^(64-n)=P at *
  omega
 rotate_left
 rotate_left
 ·have hz:0<2^(64-n):=Nat.pow_pos (by omega)
  generalize r*2^(64-n)=m at *
  generalize 2^(64-n)=P at *
  omega
 ·rw[Nat.or_comm,Nat.mul_comm r,← Nat.two_pow_add_eq_or_of_lt hb,Nat.add_comm]
 ·rw[hp,Nat.mul_assoc,Nat.mul_left_comm,Nat.add_mul_div_left _ _ (Nat.pow_pos (by omega)),Nat.mul_comm r]
 ·rw[hp,Nat.mul_comm (2^(64-n)) (2^n),Nat.mul_mod_mul_right])
structure zao (xs rs:List Nat) (n k c:Nat):Prop where
 len:rs.length=xs.length+1
 mem:∀ x ∈ rs,x < 18446744073709551616
 val:vl 18446744073709551616 rs+c * 18446744073709551616^k=2^n*vl 18446744073709551616 (xs.take k)
 zero:∀ j,k≤j→rs[j]?.getD 0=0
theorem zao.start (xs:List Nat) (n:Nat):zao xs (List.replicate (xs.length+1) 0) n 0 0 :=
 ⟨by simp,fun x hx=>by rw[List.mem_replicate] at hx;omega,by simp[qp,vl],fun j _=>by rw[List.getElem?_replicate];split <;> rfl⟩
theorem zao.step {xs rs:List Nat} {n k c:Nat} (h:zao xs rs n k c) (hk:k<xs.length) (s c':Nat) (hs:s < 18446744073709551616) (e:s + 18446744073709551616*c'=xs[k]?.getD 0*2^n+c):zao xs (rs.set k s) n (k+1) c':=by(
 have hl:=h.len
 refine⟨by rw[List.length_set];exact hl,mem_set h.mem _ _ hs,?_,fun j hj=>by rw[List.getElem?_set_ne (by omega)];exact h.zero j (by omega)⟩
 have h1:=zsp 18446744073709551616 rs k c s c' (xs[k]?.getD 0*2^n) 0 (2^n*vl 18446744073709551616 (xs.take k)) (by omega) (by rw[h.val,Nat.zero_add]) (by rw[h.zero k (Nat.le_refl _),e,Nat.zero_add])
 rw[h1,Nat.zero_add,qh 18446744073709551616 xs k hk,Nat.mul_add]
 congr 1
 rw[Nat.mul_comm (xs[k]?.getD 0),Nat.mul_assoc])
theorem zao.fin {xs rs:List Nat} {n c:Nat} (h:zao xs rs n xs.length c):vl 18446744073709551616 (rs.set xs.length c)=vl 18446744073709551616 xs*2^n:=by(
 have h1:=wo 18446744073709551616 rs xs.length c (by have:=h.len;omega)
 have h2:=h.val
 rw[h.zero _ (Nat.le_refl _),Nat.zero_mul,Nat.add_zero] at h1
 rw[List.take_length] at h2
 rw[h1,h2,Nat.mul_comm])
theorem zil (v:Value) (X n:Nat) (w:World) (hv:Sl .u64 w v (wd 18446744073709551616 X)) (hl:(wd 18446744073709551616 X).length<1073741824) (hn:n≤63) :
   Calls prog 225 #[v,.int .i64 (n:Int)] w fun e w'=>∃ v',e=.returned v'∧Sl .u64 w' v' (wd 18446744073709551616 (X*2^n))∧But [] w w'∧(v'=v∨Own w.heap.size w' v'):=by(
 rcases Nat.eq_zero_or_pos n with h0 | h0
 ·(
 subst h0
 rw[Nat.pow_zero,Nat.mul_one]
 have HV:=af hv
 obtain⟨a,c,rfl,-,-⟩:=hv
 generalize (wd 18446744073709551616 X).length=l at *
 go_enter func225,ntmps225
 go_wp2
 go_ret
 exact⟨_,rfl,ae HV,But.refl _ _,.inl rfl⟩)
 ·(
 have nz:((n:Int)==0)=false:=beq_eq_false_iff_ne.2 (by omega)
 have mm:=zo (B:=18446744073709551616) (by omega) X
 have em:=qg (B:=18446744073709551616) (by omega) X
 rcases hv.open with ⟨e,a,c,rfl⟩|⟨hp,b,off,c,rfl,hc,hbl,hcell⟩
 ·(
 have hX:X=0:=(ve (by omega) X).1 e
 subst hX
 rw[Nat.zero_mul,zh]
 clear mm em e hv
 go_enter func225,ntmps225
 go_wp2
 go_ret
 exact⟨_,rfl,⟨a,c,rfl,Nat.zero_le _,fun i hi=>by simp at hi,fun _ _ _ h0=>by simp at h0⟩,But.refl _ _,.inl rfl⟩)
 ·(
 generalize wd 18446744073709551616 X=xs at *
 subst em
 have lz0:((xs.length:Int)==0)=false:=beq_eq_false_iff_ne.2 (by omega)
 have hmk:=fun wx=>zdv wx xs.length hl
 have HC:=af hcell
 have MM:=af mm
 clear hcell mm hv
 go_enter func225,ntmps225
 go_wp2
 go_loopw [6,23] (fun c i wr=>∃ (k cN:Nat) (rs:List Nat),k≤xs.length∧i=.int .i64 k∧c=.int .u64 cN∧cN < 18446744073709551616∧rs.length=xs.length+1∧Hid (zao xs rs n k cN∧cN<2^n∧But [] w wr∧Seg wr w.heap.size 0 rs)) (fun _ i _=>xs.length-(intOf i).toNat)
 case atStart=>exact⟨0,0,List.replicate (xs.length+1) 0,Nat.zero_le _,rfl,rfl,by omega,by simp,zao.start xs n,Nat.pow_pos (by omega),(But.refl _ _).alloc _,Seg.made _ _ _⟩
 case round =>(
 obtain⟨k,cN,rs,hk,rfl,rfl,hcN,hrl,HI⟩:=hrel
 rename World=>wr
 by_cases hlt:k<xs.length
 ·(
 have cx:=(ae HI).2.2.1.ag (ae HC k hlt) (by simp)
 have hxB:xs[k]?.getD 0 < 18446744073709551616:=bt (ae MM) (by omega) k
 obtain⟨cr,fr⟩:=(ae HI).2.2.2 k (by omega)
 rw[Nat.zero_add] at cr fr
 obtain⟨s1,s2,s3,s4⟩:=qaq _ cN n hxB h0 hn (ae HI).2.1
 have ST:=af ((ae HI).1.step hlt _ _ s2 s3)
 have S4:=af s4
 have hsl:xs[k]?.getD 0/2^(64-n) < 18446744073709551616:=Nat.lt_of_le_of_lt (Nat.div_le_self _ _) hxB
 have E1:bits .or .u64 (IntKind.u64.wrap ((xs[k]?.getD 0:Nat)*2^n)) (cN:Int)=((xs[k]?.getD 0*2^n % 18446744073709551616+cN:Nat):Int):=by
  have e1:IntKind.u64.wrap (((xs[k]?.getD 0:Nat):Int)*2^n)=((xs[k]?.getD 0*2^n % 18446744073709551616:Nat):Int):=by
   have e:((xs[k]?.getD 0:Nat):Int)*2^n=((xs[k]?.getD 0*2^n:Nat):Int):=by simp
   rw[e,IntKind.wrap_u64];omega
  rw[e1,bits_or_u64_nat _ _ (by omega) hcN,s1]
 have E2:((xs[k]?.getD 0:Nat):Int)/2^(64-n)=((xs[k]?.getD 0/2^(64-n):Nat):Int):=by simp
 clear s1 s3 s4
 generalize xs[k]?.getD 0*2^n % 18446744073709551616+cN=s at *
 generalize xs[k]?.getD 0/2^(64-n)=c' at *
 generalize xs[k]?.getD 0=x at *
 generalize rs[k]?.getD 0=r at cr
 have hset:=(ae HI).2.2.2.set k (by omega) s
 rw[Nat.zero_add] at hset
 have HSET:=af hset
 clear hset
 go_wp2
 refine⟨⟨k+1,c',rs.set k s,by omega,by go_num,rfl,hsl,by rw[List.length_set];exact hrl,ae ST,ae S4,(ae HI).2.2.1.setCell (.inr (Nat.le_refl _)) _,ae HSET⟩,?_⟩
 simp[intOf];omega)
 ·(
 have hke:k=xs.length:=by omega
 subst hke
 have hset:=(ae HI).2.2.2.set xs.length (by omega) cN
 obtain⟨cr,fr⟩:=(ae HI).2.2.2 xs.length (by omega)
 rw[Nat.zero_add] at cr fr hset
 have hsl:=hset.sl (xs.length+1) (by rw[List.length_set];omega)
 rw[List.length_set,hrl] at hsl
 have HSL:=af hsl
 have HSG:=af hset
 have HMM:=af (mem_set (ae HI).1.mem xs.length cN hcN)
 have HF:=af (ae HI).1.fin
 have hln:(rs.set xs.length cN).length<2147483648:=by rw[List.length_set];omega
 have HB:=af ((ae HI).2.2.1.setCell (p:=⟨w.heap.size,xs.length,none⟩) (.inr (Nat.le_refl _)) (.int .u64 (cN:Int)))
 clear hset hsl HC HI
 generalize rs[xs.length]?.getD 0=r at cr
 go_wp2_with fail
 refine (zz _ (rs.set xs.length cN) _ (ae HSL) (ae HMM) hln).mono ?_
 rintro e w1 ⟨v1,rfl,hv1,hw,hsb⟩
 obtain rfl:=hw.symm
 clear hw
 have OW:=af (zoo (ae HSG) hsb hv1 (aj (by omega) _ _ (fe (by omega) _ (ae HMM))) (Nat.le_refl _))
 rw[ae HF] at hv1
 have HV1:=af hv1
 clear hv1 hsb
 go_wp2
 go_ret
 exact⟨v1,rfl,ae HV1,ae HB,.inr (ae OW)⟩)))))
structure pg (xs rs:List Nat) (n k c:Nat):Prop where
 len:rs.length=xs.length
 mem:∀ x ∈ rs,x < 18446744073709551616
 val:vl 18446744073709551616 (rs.drop k)=vl 18446744073709551616 (xs.drop k)/2^n
 car:c=vl 18446744073709551616 (xs.drop k)%2^n*2^(64-n)
theorem pg.start (xs:List Nat) (n:Nat):pg xs (List.replicate xs.length 0) n xs.length 0 :=
 ⟨by simp,fun x hx=>by rw[List.mem_replicate] at hx;omega,by simp[vl],by simp[vl]⟩
theorem pg.step {xs rs:List Nat} {n i c:Nat} (h:pg xs rs n (i+1) c) (hi:i<xs.length) (hn:n≤63) (s c':Nat) (hs:s < 18446744073709551616) (e:(xs[i]?.getD 0 + 18446744073709551616*(vl 18446744073709551616 (xs.drop (i+1))%2^n))/2^n=s) (ec:xs[i]?.getD 0%2^n*2^(64-n)=c'):pg xs (rs.set i s) n i c':=by(
 have hp:18446744073709551616=2^n*2^(64-n):=by rw[← Nat.pow_add,show n+(64-n)=64 from by omega]
 have hz:0<2^n:=Nat.pow_pos (by omega)
 refine⟨by rw[List.length_set];exact h.len,mem_set h.mem _ _ hs,?_,?_⟩
 ·(
 rw[set_drop rs i s (by rw[h.len];exact hi),vl,h.val,j6 18446744073709551616 xs i hi,← e]
 have hd:=Nat.mod_add_div (vl 18446744073709551616 (xs.drop (i+1))) (2^n)
 generalize vl 18446744073709551616 (xs.drop (i+1))=V at *
 have e1:xs[i]?.getD 0 + 18446744073709551616*V=xs[i]?.getD 0 + 18446744073709551616*(V%2^n)+2^n*(18446744073709551616*(V/2^n)):=by
  conv=>lhs;rw[← hd]
  rw[Nat.mul_add,← Nat.add_assoc,Nat.mul_left_comm]
 rw[e1,Nat.add_mul_div_left _ _ hz])
 ·rw[j6 18446744073709551616 xs i hi,hp,Nat.mul_assoc,Nat.add_mul_mod_self_left,← ec])
theorem pg.fin {xs rs:List Nat} {n c:Nat} (h:pg xs rs n 0 c):vl 18446744073709551616 rs=vl 18446744073709551616 xs/2^n:=h.val
theorem zor (v:Value) (X n:Nat) (w:World) (hv:Sl .u64 w v (wd 18446744073709551616 X)) (hl:(wd 18446744073709551616 X).length<1073741824) (hn:n≤63) :
   Calls prog 226 #[v,.int .i64 (n:Int)] w fun e w'=>∃ v',e=.returned v'∧Sl .u64 w' v' (wd 18446744073709551616 (X/2^n))∧But [] w w'∧(v'=v∨Own w.heap.size w' v'):=by(
 rcases Nat.eq_zero_or_pos n with h0 | h0
 ·(
 subst h0
 rw[Nat.pow_zero,Nat.div_one]
 have HV:=af hv
 obtain⟨a,c,rfl,-,-⟩:=hv
 generalize (wd 18446744073709551616 X).length=l at *
 go_enter func226,ntmps226
 go_wp2
 go_ret
 exact⟨_,rfl,ae HV,But.refl _ _,.inl rfl⟩)
 ·(
 have nz:((n:Int)==0)=false:=beq_eq_false_iff_ne.2 (by omega)
 have mm:=zo (B:=18446744073709551616) (by omega) X
 have em:=qg (B:=18446744073709551616) (by omega) X
 rcases hv.open with ⟨e,a,c,rfl⟩|⟨hp,b,off,c,rfl,hc,hbl,hcell⟩
 ·(
 have hX:X=0:=(ve (by omega) X).1 e
 subst hX
 rw[Nat.zero_div,zh]
 clear mm em e hv
 go_enter func226,ntmps226
 go_wp2
 go_ret
 exact⟨_,rfl,⟨a,c,rfl,Nat.zero_le _,fun i hi=>by simp at hi,fun _ _ _ h0=>by simp at h0⟩,But.refl _ _,.inl rfl⟩)
 ·(
 generalize wd 18446744073709551616 X=xs at *
 subst em
 have lz0:((xs.length:Int)==0)=false:=beq_eq_false_iff_ne.2 (by omega)
 have hmk:=fun wx=>xq wx xs.length (by omega)
 have HC:=af hcell
 have MM:=af mm
 clear hcell mm hv
 go_enter func226,ntmps226
 go_wp2
 go_loopw [6,7] (fun c i wr=>∃ (k cN:Nat) (rs:List Nat),k≤xs.length∧i=.int .i64 ((k:Int)-1)∧c=.int .u64 cN∧cN < 18446744073709551616∧rs.length=xs.length∧Hid (pg xs rs n k cN∧But [] w wr∧Seg wr w.heap.size 0 rs)) (fun _ i _=>(intOf i+1).toNat)
 case atStart=>exact⟨xs.length,0,List.replicate xs.length 0,Nat.le_refl _,rfl,rfl,by omega,by simp,pg.start xs n,(But.refl _ _).alloc _,Seg.made _ _ _⟩
 case round =>(
 obtain⟨k,cN,rs,hk,rfl,rfl,hcN,hrl,HI⟩:=hrel
 rename World=>wr
 by_cases hk0:k=0
 ·(
 subst hk0
 have hsl:=(ae HI).2.2.sl xs.length (by omega)
 rw[hrl] at hsl
 have HSL:=af hsl
 have HF:=af (ae HI).1.fin
 have hln:rs.length<2147483648:=by omega
 clear hsl HC
 go_wp2_with fail
 refine (zz _ rs _ (ae HSL) (ae HI).1.mem hln).mono ?_
 rintro e w1 ⟨v1,rfl,hv1,hw,hsb⟩
 obtain rfl:=hw.symm
 clear hw
 have hown:=zoo (lo:=w.heap.size) (ae HI).2.2 hsb hv1 (by have:=aj (B:=18446744073709551616) (by omega) (vl 18446744073709551616 rs) rs.length (fe (by omega) rs (ae HI).1.mem);exact this) (Nat.le_refl _)
 rw[ae HF] at hv1
 have HV1:=af hv1
 have HOW:=af hown
 clear hv1 hown hsb
 go_wp2
 go_ret
 exact⟨v1,rfl,ae HV1,(ae HI).2.1,.inr (ae HOW)⟩)
 ·(
 obtain⟨i,rfl⟩:∃ i,k=i+1:=⟨k-1,by omega⟩
 have cx:=(ae HI).2.1.ag (ae HC i (by omega)) (by simp)
 have hxB:xs[i]?.getD 0 < 18446744073709551616:=bt (ae MM) (by omega) i
 obtain⟨cr,fr⟩:=(ae HI).2.2 i (by omega)
 rw[Nat.zero_add] at cr fr
 have hc:=(ae HI).1.car
 obtain⟨s1,s2,s3,s4,s5⟩:=qap _ (vl 18446744073709551616 (xs.drop (i+1))%2^n) n hxB h0 hn (Nat.mod_lt _ (Nat.pow_pos (by omega)))
 have ST:=af ((ae HI).1.step (by omega) hn _ _ s2 s3 rfl)
 rw[← hc] at s1 s2 ST
 have E1:bits .or .u64 ((xs[i]?.getD 0:Nat)/2^n) (cN:Int)=((xs[i]?.getD 0/2^n+cN:Nat):Int):=by
  have e:((xs[i]?.getD 0:Nat):Int)/2^n=((xs[i]?.getD 0/2^n:Nat):Int):=by simp
  rw[e,bits_or_u64_nat _ _ (Nat.lt_of_le_of_lt (Nat.div_le_self _ _) hxB) hcN,s1]
 have E2:IntKind.u64.wrap (((xs[i]?.getD 0:Nat):Int)*2^(64-n))=((xs[i]?.getD 0%2^n*2^(64-n):Nat):Int):=by
  have e:((xs[i]?.getD 0:Nat):Int)*2^(64-n)=((xs[i]?.getD 0*2^(64-n):Nat):Int):=by simp
  rw[e,IntKind.wrap_u64,← s4];omega
 have hc'B:xs[i]?.getD 0%2^n*2^(64-n) < 18446744073709551616:=by rw[← s4];omega
 clear s1 s3 s4 s5 hc
 generalize xs[i]?.getD 0%2^n*2^(64-n)=c' at *
 generalize xs[i]?.getD 0/2^n+cN=s at *
 generalize xs[i]?.getD 0=x at *
 generalize rs[i]?.getD 0=r at cr
 have hset:=(ae HI).2.2.set i (by omega) s
 rw[Nat.zero_add] at hset
 have HSET:=af hset
 clear hset
 rw[show (((i+1:Nat):Int)-1)=(i:Int) from by omega]
 go_wp2
 refine⟨⟨i,c',rs.set i s,by omega,rfl,rfl,hc'B,by rw[List.length_set];exact hrl,ae ST,(ae HI).2.1.setCell (.inr (Nat.le_refl _)) _,ae HSET⟩,?_⟩
 simp[intOf])))))
end Go.Proofs.YtagmkkiagjmimaaGreatDoor
