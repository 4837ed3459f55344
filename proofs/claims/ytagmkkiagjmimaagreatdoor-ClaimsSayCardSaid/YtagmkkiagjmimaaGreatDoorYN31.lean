/- A whole number, so many words higher, wi -/
import Derived.Deep.LoopGhost
import Derived.Test.YtagmkkiagjmimaaGreatDoorYN15
namespace Go.Proofs.YtagmkkiagjmimaaGreatDoor
set_option linter.unusedVariables false
open Go.Proofs.Tryz
open Go.RowKit
set_option maxHeartbeats 8000000
set_option maxRecDepth 100000
theorem zpj (X R n:Nat) (hX:0<X) (hR:R < 18446744073709551616^n):(wd 18446744073709551616 (X * 18446744073709551616^n+R)).length=(wd 18446744073709551616 X).length+n:=by(
 have hp:0 < 18446744073709551616^n:=Nat.pow_pos (by omega)
 have h1:(X * 18446744073709551616^n+R) / 18446744073709551616^n=X:=by
  rw[Nat.mul_comm,Nat.mul_add_div hp,Nat.div_eq_of_lt hR,Nat.add_zero]
 have h2:=j4 n (X * 18446744073709551616^n+R)
 rw[h1] at h2
 have h3:(wd 18446744073709551616 X).length≠0:=fun e=>by rw[zq (by omega)] at e;omega
 omega)
theorem zun (X R n:Nat) (hX:0<X) (hR:R < 18446744073709551616^n) (zs:List Nat) (hz:∀ x ∈ zs,x=0) (hl:(wd 18446744073709551616 R).length+zs.length=n):wd 18446744073709551616 R++zs++wd 18446744073709551616 X=wd 18446744073709551616 (X * 18446744073709551616^n+R):=by(
 have hv0:vl 18446744073709551616 zs=0:=zbt 18446744073709551616 zs (fun j hj=>by
  have:=hz zs[j] (List.getElem_mem hj)
  rw[List.getElem?_eq_getElem hj];exact this)
 refine qbr (B:=18446744073709551616) (by omega) _ _ ?_ ?_ (zt (by omega) _) ?_
 ·rw[zpj X R n hX hR,List.length_append,List.length_append,hl,Nat.add_comm]
 ·(
 intro x hx
 rw[List.mem_append,List.mem_append] at hx
 rcases hx with (hx | hx) | hx
 ·exact zt (by omega) _ x hx
 ·rw[hz x hx];omega
 ·exact zt (by omega) _ x hx)
 ·rw[qd,qd,hv0,qy (by omega),qy (by omega),qy (by omega),List.length_append,hl,Nat.mul_zero,Nat.add_zero,Nat.mul_comm,Nat.add_comm])
theorem zxb (nx n:Nat) (h0:0<nx) (h:nx+n<2147483648):(0:Int)≤(n:Int)∧(n:Int)<((nx+n:Nat):Int)∧nx+n-n=nx∧(n:Int)<(nx:Int)+(n:Int)∧(n:Int)≤(nx:Int)+(n:Int)∧((nx:Int)==0)=false∧IntKind.i64.wrap ((nx:Int)+(n:Int))=(nx:Int)+(n:Int)∧wrap64 ((nx:Int)+(n:Int))=(nx:Int)+(n:Int):=by
 refine⟨by omega,by omega,by omega,by omega,by omega,by simp;omega,by rw[IntKind.wrap_i64];omega,by unfold wrap64;omega⟩
theorem zbi (vx vr:Value) (X R n:Nat) (w:World) (hx:Sl .u64 w vx (wd 18446744073709551616 X)) (hr:Sl .u64 w vr (wd 18446744073709551616 R)) (hR:R < 18446744073709551616^n) (hl:(wd 18446744073709551616 X).length+n<134217728) :
   Calls prog 266 #[vx,.int .i64 (n:Int),vr] w fun e w'=>∃ v',e=.returned v'∧Sl .u64 w' v' (wd 18446744073709551616 (X * 18446744073709551616^n+R))∧But [] w w'∧((X=0∧v'=vr)∨Own w.heap.size w' v'):=by(
 rcases Nat.eq_zero_or_pos X with h0 | h0
 ·(
 subst h0
 rw[zo] at hx
 have HR:=af hr
 obtain⟨a1,c1,rfl,-,-⟩:=hx
 obtain⟨a2,c2,rfl,-,-⟩:=hr
 go_enter func266,ntmps266
 go_wp2
 go_ret
 exact⟨_,rfl,by rw[Nat.zero_mul,Nat.zero_add];exact ae HR,But.refl _ _,.inl (by simp)⟩)
 ·(
 have hlr:(wd 18446744073709551616 R).length≤n:=aj (by omega) R n hR
 have hxp:0<(wd 18446744073709551616 X).length:=by rw[Nat.pos_iff_ne_zero];intro e;rw[zq (by omega)] at e;omega
 obtain⟨nx,hnx⟩:∃ nx,nx=(wd 18446744073709551616 X).length:=⟨_,rfl⟩
 have SM:=Seg.made w (nx+n) 24
 have bM:=ku w (nx+n) 24
 obtain⟨w2,hcp,HC⟩:=jl (P:=prog) (w.alloc (.cells (madeCells #[.int .u64 0] (nx+n)) 24)) 102 103 24 underlying102 nk w.heap.size 0 (nx+n) (nx+n) vr (List.replicate (nx+n) 0) (wd 18446744073709551616 R) SM (by simp) (hr.ah bM) (by simp;omega)
 obtain⟨r1,hr1⟩:∃ r1,r1=wd 18446744073709551616 R++(List.replicate (nx+n) 0).drop (wd 18446744073709551616 R).length:=⟨_,rfl⟩
 have hr1l:r1.length=nx+n:=by rw[hr1];simp;omega
 rw[← hr1] at HC
 have b2:But [] w w2:=bM.trans (ae HC).2.but (fun x hx=>by simp at hx;subst hx;exact .inr (Nat.le_refl _))
 have S2:=(ae HC).1.sub n nx (by omega)
 have hsl:((r1.drop n).take nx).length=nx:=by rw[List.length_take,List.length_drop,hr1l];omega
 obtain⟨w3,hcp2,HC2⟩:=jl (P:=prog) w2 102 103 24 underlying102 nk w.heap.size (0+n) nx nx vx ((r1.drop n).take nx) (wd 18446744073709551616 X) S2 hsl.symm (hx.ah b2) (by rw[hsl,hnx];exact Nat.le_refl _)
 have hd0:((r1.drop n).take nx).drop (wd 18446744073709551616 X).length=[]:=List.drop_eq_nil_of_le (by rw[hsl,hnx];exact Nat.le_refl _)
 rw[hd0,List.append_nil] at HC2
 have SW:=(ae HC).1.whole (ae HC2).2 (ae HC2).1 rfl (by rw[hr1l,← hnx];omega)
 have b3:But [] w w3:=b2.trans (ae HC2).2.but (fun x hx=>by simp at hx;subst hx;exact .inr (Nat.le_refl _))
 have et:r1.take n=wd 18446744073709551616 R++((List.replicate (nx+n) 0).drop (wd 18446744073709551616 R).length).take (n-(wd 18446744073709551616 R).length):=by
  rw[hr1,List.take_append,List.take_of_length_le hlr]
 have ed:r1.drop (n+(wd 18446744073709551616 X).length)=[]:=List.drop_eq_nil_of_le (by rw[hr1l,hnx];omega)
 rw[Nat.zero_add,ed,List.append_nil,et,zun X R n h0 hR _ (fun x hx=>by
  have:=List.mem_of_mem_drop (List.mem_of_mem_take hx)
  exact (List.mem_replicate.1 this).2) (by simp;omega)] at SW
 have hlen:=zpj X R n h0 hR
 have SL:=SW.sl (nx+n) (by rw[hlen,hnx];exact Nat.le_refl _)
 rw[hlen,← hnx] at SL
 have OW:Own w.heap.size w3 (.slice (some ⟨w.heap.size,0,none⟩) (nx+n) (nx+n)):=fun b off m c e=>by
  simp only[Value.slice.injEq,Option.some.injEq,Addr.mk.injEq] at e
  obtain⟨⟨rfl,rfl,-⟩,rfl,-⟩:=e
  exact⟨Nat.le_refl _,fun i hi=>(SW i (by rw[hlen,← hnx];exact hi)).2⟩
 have FIN:=af (And.intro SL (And.intro b3 OW))
 have hlt:nx+n<2147483648:=by rw[hnx];exact Nat.lt_trans hl (by decide)
 have hmk:∀ wx,(Instr.makeSlice 102 (.int .i64 ((nx:Int)+(n:Int))) (.int .i64 ((nx:Int)+(n:Int)))).run prog wx=.ok (.slice (some ⟨wx.heap.size,0,none⟩) (nx+n) (nx+n)) (wx.alloc (.cells (madeCells #[.int .u64 0] (nx+n)) 24)):=fun wx=>by
  have h:=kw wx (nx+n) hlt
  rw[Int.natCast_add] at h
  exact h
 have hnxp:0<nx:=by rw[hnx];exact hxp
 obtain⟨i1,i2,i3,i4,i5,hn0,ew,ew2⟩:=zxb nx n hnxp hlt
 obtain⟨a1,c1,rfl,-,-⟩:=hx
 obtain⟨a2,c2,rfl,-,-⟩:=hr
 rw[← hnx] at hcp2 ⊢
 generalize (wd 18446744073709551616 R).length=nr at *
 rw[Nat.zero_add] at hcp2
 clear SM bM HC HC2 S2 hsl hd0 SW et ed SL OW b2 b3 hr1 hr1l hlen hxp hnx hnxp
 go_enter func266,ntmps266
 go_wp2
 go_ret
 exact⟨_,rfl,(ae FIN).1,(ae FIN).2.1,.inr (ae FIN).2.2⟩))
def jh (w:World) (vx:Value) (w':World) (v:Value):Prop:=∀ b off n c,v=.slice (some ⟨b,off,none⟩) n c →
 (w.heap.size≤b∧∀ i,i<n→w'.frozen? ⟨b,off+i,none⟩=false)∨∃ off0 n0 c0,vx=.slice (some ⟨b,off0,none⟩) n0 c0∧off0≤off∧off+n≤off0+n0
theorem jh.self (w:World) (v:Value) (w':World):jh w v w' v:=fun _ off n c e=>.inr ⟨off,n,c,e,Nat.le_refl _,Nat.le_refl _⟩
theorem jh.zfe {w w':World} {vx v:Value} (h:Own w.heap.size w' v):jh w vx w' v:=fun b off n c e=>.inl (h b off n c e)
theorem jh.nil (w:World) (vx:Value) (w':World) (m c:Nat):jh w vx w' (.slice none m c):=fun _ _ _ _ e=>by simp at e
theorem Sl.zqn {k:IntKind} {w:World} {v:Value} {xs:List Nat} (h:Sl k w v xs) {a:Option Addr} {n c:Nat} (e:v=.slice a n c):n=xs.length:=by(
 obtain⟨a1,c1,e1,-⟩:=h
 rw[e] at e1
 exact (Value.slice.inj e1).2.1)
theorem jh.but {w w1 w2:World} {vx v1:Value} {xs:List Nat} (h:jh w vx w1 v1) (hs:Sl .u64 w1 v1 xs) (hb:But [] w1 w2):jh w vx w2 v1:=fun b off n c e=>by
 rcases h b off n c e with ⟨h1,h2⟩ | h1
 ·refine .inl ⟨h1,fun i hi=>?_⟩
  have hn:=hs.zqn e
  have hl:=hs.lt (by omega) b off n c e
  rw[hb.frozen (p:=⟨b,off+i,none⟩) hl (by simp)]
  exact h2 i hi
 ·exact .inr h1
theorem jh.pre {w W w':World} {vx v:Value} (h:jh W vx w' v) (hs:w.heap.size≤W.heap.size):jh w vx w' v:=fun b off n c e=>by
 rcases h b off n c e with ⟨h1,h2⟩ | h1
 ·exact .inl ⟨Nat.le_trans hs h1,h2⟩
 ·exact .inr h1
theorem jh.trans {w w1 w2:World} {vx v1 v2:Value} {xs:List Nat} (h:jh w vx w1 v1) (hs:Sl .u64 w1 v1 xs) (hb:But [] w1 w2) (hw:w.heap.size≤w1.heap.size) (k:jh w1 v1 w2 v2):jh w vx w2 v2:=fun b off n c e=>by
 rcases k b off n c e with ⟨h1,h2⟩|⟨o0,n0,c0,e0,h3,h4⟩
 ·exact .inl ⟨Nat.le_trans hw h1,h2⟩
 ·rcases (h.but hs hb) b o0 n0 c0 e0 with ⟨h5,h6⟩|⟨o1,n1,c1,e1,h7,h8⟩
  ·refine .inl ⟨h5,fun i hi=>?_⟩
   have:=h6 (off-o0+i) (by omega)
   rwa [show o0+(off-o0+i)=off+i from by omega] at this
  ·exact .inr ⟨o1,n1,c1,e1,by omega,by omega⟩
theorem jh.own {lo:Nat} {w w':World} {vx v:Value} {xs:List Nat} (h:jh w vx w' v) (ho:Own lo w vx) (hlo:lo≤w.heap.size) (hs:Sl .u64 w vx xs) (hb:But [] w w'):Own lo w' v:=fun b off n c e=>by
 rcases h b off n c e with ⟨h1,h2⟩|⟨o0,n0,c0,e0,h3,h4⟩
 ·exact⟨Nat.le_trans hlo h1,h2⟩
 ·refine⟨(ho _ _ _ _ e0).1,fun i hi=>?_⟩
  have hn:=hs.zqn e0
  have hl:=hs.lt (by omega) b o0 n0 c0 e0
  rw[hb.frozen (p:=⟨b,off+i,none⟩) hl (by simp)]
  have:=(ho _ _ _ _ e0).2 (off-o0+i) (by omega)
  rwa [show o0+(off-o0+i)=off+i from by omega] at this
theorem zjf (v:Value) (X n:Nat) (w:World) (hv:Sl .u64 w v (wd 18446744073709551616 X)) (hl:(wd 18446744073709551616 X).length<2147483648) (hn:n<2147483648) :
   Calls prog 243 #[v,.int .i64 (n:Int)] w fun e w'=>∃ v',e=.returned v'∧Sl .u64 w v' (wd 18446744073709551616 (X % 18446744073709551616^n))∧w'=w∧jh w v w v':=by(
 by_cases hle:(wd 18446744073709551616 X).length≤n
 ·(
 have e:X % 18446744073709551616^n=X:=Nat.mod_eq_of_lt (ak (by omega) X n hle)
 rw[e]
 have HV:=af hv
 obtain⟨a,c,rfl,-,-⟩:=hv
 clear e
 generalize (wd 18446744073709551616 X).length=l at *
 go_enter func243,ntmps243
 go_wp2
 go_ret
 exact⟨_,rfl,ae HV,rfl,jh.self _ _ _⟩)
 ·(
 rcases hv.open with ⟨e,-⟩|⟨h0,b,off,c,rfl,hc,-,-⟩
 ·rw[e] at hle;simp at hle
 have ht:=qo (.slice (some ⟨b,off,none⟩) n c) ((wd 18446744073709551616 X).take n) w (hv.take n c (by omega) (by omega)) (fun x hx=>zt (by omega) X x (List.mem_of_mem_take hx)) (by rw[List.length_take];omega)
 rw[zxf] at ht
 have HT:=af ht
 have LM:=af (zlr n X)
 clear ht hv
 generalize (wd 18446744073709551616 X).length=l at *
 have hnl:n<l:=by omega
 have hnc:n≤c:=by omega
 go_enter func243,ntmps243
 go_wp2_with fail
 refine (ae HT).mono ?_
 rintro e w1 ⟨v',rfl,h1,hw,hsb⟩
 obtain rfl:=hw.symm
 clear hw
 have HH:Hid (jh w (.slice (some ⟨b,off,none⟩) l c) w v'):=fun b1 off1 n1 c1 e1=>by
  have hn1:=h1.zqn e1
  have hlm:=ae LM
  obtain⟨n',c',e'⟩:=hsb b1 off1 n1 c1 e1
  simp only[Value.slice.injEq,Option.some.injEq,Addr.mk.injEq] at e'
  obtain⟨⟨rfl,rfl,-⟩,-,-⟩:=e'
  exact .inr ⟨_,_,_,rfl,Nat.le_refl _,by omega⟩
 have H1:=af h1
 clear h1 hsb
 go_wp2
 go_ret
 exact⟨v',rfl,ae H1,rfl,ae HH⟩))
theorem zvt (v:Value) (X n:Nat) (w:World) (hv:Sl .u64 w v (wd 18446744073709551616 X)) (hn:n<2147483648) :
   Calls prog 244 #[v,.int .i64 (n:Int)] w fun e w'=>∃ v',e=.returned v'∧Sl .u64 w v' (wd 18446744073709551616 (X / 18446744073709551616^n))∧w'=w∧jh w v w v':=by(
 by_cases hle:(wd 18446744073709551616 X).length≤n
 ·(
 have e:X / 18446744073709551616^n=0:=Nat.div_eq_of_lt (ak (by omega) X n hle)
 rw[e,zo]
 obtain⟨a,c,rfl,-,-⟩:=hv
 clear e
 generalize (wd 18446744073709551616 X).length=l at *
 go_enter func244,ntmps244
 go_wp2
 go_ret
 exact⟨_,rfl,Sl.nil _ _,rfl,jh.nil _ _ _ _ _⟩)
 ·(
 rcases hv.open with ⟨e,-⟩|⟨h0,b,off,c,rfl,hc,-,-⟩
 ·rw[e] at hle;simp at hle
 have HR:=af (hv.drop n ((wd 18446744073709551616 X).length-n) (c-n) rfl (by omega))
 rw[zpk] at HR
 clear hv
 generalize (wd 18446744073709551616 X).length=l at *
 have hnl:n<l:=by omega
 have hnc:n<c:=by omega
 go_enter func244,ntmps244
 go_wp2
 go_ret
 refine⟨_,rfl,ae HR,rfl,fun b1 off1 n1 c1 e1=>?_⟩
 simp only at e1
 obtain⟨⟨rfl,rfl,-⟩,rfl,-⟩:=e1
 exact .inr ⟨_,_,_,rfl,by omega,by omega⟩))
theorem zvr (va vb:Value) (xs ys:List Nat) (w:World) (ha:Sl .u64 w va xs) (hb:Sl .u64 w vb ys) (mx:∀ x ∈ xs,x < 18446744073709551616) (my:∀ x ∈ ys,x < 18446744073709551616) (hle:ys.length≤xs.length) (h0:0<ys.length) (hl:xs.length<1073741824) (hv:vl 18446744073709551616 ys≤vl 18446744073709551616 xs) :
   Calls prog 213 #[va,vb] w fun e w'=>∃ v',e=.returned v'∧Sl .u64 w' v' (wd 18446744073709551616 (vl 18446744073709551616 xs-vl 18446744073709551616 ys))∧But [] w w'∧Own w.heap.size w' v':=by(
 obtain⟨b1,o1,c1,rfl,hc1⟩:∃ b o c,va=.slice (some ⟨b,o,none⟩) xs.length c∧xs.length≤c:=by
  rcases ha.open with ⟨rfl,-⟩|⟨-,b,o,c,e,h,-⟩
  ·simp only[List.length_nil] at hle;omega
  ·exact⟨b,o,c,e,h⟩
 obtain⟨b2,o2,c2,rfl,hc2⟩:∃ b o c,vb=.slice (some ⟨b,o,none⟩) ys.length c∧ys.length≤c:=by
  rcases hb.open with ⟨rfl,-⟩|⟨-,b,o,c,e,h,-⟩
  ·simp at h0
  ·exact⟨b,o,c,e,h⟩
 have n0:((ys.length:Int)==0)=false:=beq_eq_false_iff_ne.2 (by omega)
 have hmk:=fun wx=>kw wx xs.length (by omega)
 have hof:Off w.heap.size (.slice (some ⟨b2,o2,none⟩) ys.length c2):=pz hb h0 _ (Nat.le_refl _)
 obtain⟨w2,hcp,HC⟩:=jl (P:=prog) (w.alloc (.cells (madeCells #[.int .u64 0] xs.length) 24)) 102 103 24 underlying102 nk w.heap.size 0 xs.length xs.length _ (List.replicate xs.length 0) xs (Seg.made _ _ _) (by simp) (ha.ah (ku _ _ _)) (by simp)
 have e1:xs++(List.replicate xs.length 0).drop xs.length=xs:=by simp
 rw[e1] at HC
 have hB2:Hid (But [] w w2):=((ku w xs.length 24).trans (ae HC).2.but (fun x hx=>by simp at hx;subst hx;exact .inr (Nat.le_refl _)))
 have hsub:=zjw w.heap.size 0 xs.length xs ys (.slice (some ⟨b2,o2,none⟩) ys.length c2) w2 (ae HC).1 (by omega) (hb.ah (ae hB2)) (fun _=>hof) mx my (by omega) (by omega)
 have HSUB:=af hsub
 have HV:=af hv
 clear ha hb mx my hof hsub HC e1 hv
 go_enter func213,ntmps213
 go_wp2_with fail
 refine (ae HSUB).mono ?_
 rintro e w3 ⟨c,rs',rfl,hc,hlr,hmr,hv,hsg,hpt⟩
 have hV:=zlq xs ys rs' c hmr (ae HV) hlr hv
 have HV:=af hV
 clear hV hv
 have hB3:Hid (But [] w w3):=(ae hB2).trans hpt.but (fun x hx=>by simp at hx;subst hx;exact .inr (Nat.le_refl _))
 have hsl:=hsg.sl xs.length (by omega)
 rw[hlr] at hsl
 have HS:=af hsl
 have SG:=af hsg
 have LW:Hid ((wd 18446744073709551616 (vl 18446744073709551616 rs')).length≤rs'.length):=aj (by omega) _ _ (ni (by omega) rs' hmr)
 clear hsl hsg hpt HSUB
 go_wp2_with fail
 refine (qo _ rs' _ (ae HS) hmr (by omega)).mono ?_
 rintro e w4 ⟨v',rfl,hs4,hw4,hsb⟩
 obtain rfl:=hw4.symm
 clear hw4
 have OW:=af (zqd (ae SG) hsb hs4 (ae LW) (Nat.le_refl _))
 have H4:=af hs4
 clear hs4 hsb
 go_wp2
 go_ret
 exact⟨v',rfl,by rw[← ae HV];exact ae H4,ae hB3,ae OW⟩)
theorem qag (va vb:Value) (m n:Nat) (w:World) (ha:Sl .u64 w va (wd 18446744073709551616 m)) (hb:Sl .u64 w vb (wd 18446744073709551616 n)) (hla:(wd 18446744073709551616 m).length<1073741824) (hmn:n≤m) :
   Calls prog 213 #[va,vb] w fun e w'=>∃ v',e=.returned v'∧Sl .u64 w' v' (wd 18446744073709551616 (m-n))∧But [] w w'∧((n=0∧v'=va)∨Own w.heap.size w' v'):=by(
 rcases Nat.eq_zero_or_pos n with h0 | h0
 ·(
 subst h0
 rw[zo] at hb
 have HR:=af ha
 obtain⟨a1,c1,rfl,-,-⟩:=ha
 obtain⟨a2,c2,rfl,-,-⟩:=hb
 go_enter func213,ntmps213
 go_wp2
 go_ret
 exact⟨_,rfl,ae HR,But.refl _ _,.inl (by simp)⟩)
 ·(
 have em:=qy (B:=18446744073709551616) (by omega) m
 have en:=qy (B:=18446744073709551616) (by omega) n
 have hl:(wd 18446744073709551616 n).length≤(wd 18446744073709551616 m).length:=aj (by omega) n _ (Nat.lt_of_le_of_lt hmn (ak (by omega) m _ (Nat.le_refl _)))
 have hp:0<(wd 18446744073709551616 n).length:=by
  rw[Nat.pos_iff_ne_zero];intro h;rw[zq (by omega)] at h;omega
 have:=zvr va vb _ _ w ha hb (zt (by omega) m) (zt (by omega) n) hl hp hla (by rw[em,en];exact hmn)
 rw[em,en] at this
 exact this.mono fun e w' ⟨v',h1,h2,h3,h4⟩=>⟨v',h1,h2,h3,.inr h4⟩))
def ic (X Y:Nat):Prop:=∀ (vx vy:Value) (w:World),Sl .u64 w vx (wd 18446744073709551616 X)→Sl .u64 w vy (wd 18446744073709551616 Y) →
 Calls prog 224 #[vx,vy] w fun e w'=>∃ v1 v2,e=.returned (.tuple #[v1,v2])∧Sl .u64 w' v1 (wd 18446744073709551616 (X/Y))∧Sl .u64 w' v2 (wd 18446744073709551616 (X%Y))∧But [] w w'∧jh w vx w' v2
structure zdb (w wr:World) (X Y T:Nat) (vx vy vt:Value) (vq vm:Value) (k Q M:Nat):Prop where
 q:Sl .u64 wr vq (wd 18446744073709551616 Q)
 m:Sl .u64 wr vm (wd 18446744073709551616 M)
 y:Sl .u64 wr vy (wd 18446744073709551616 Y)
 t:Sl .u64 wr vt (wd 18446744073709551616 T)
 inv:zck X Y T Q M
 k:T-M=k
 but:But [] w wr
 heir:T=0→jh w vx wr vm
theorem zdb.len {w wr:World} {X Y T:Nat} {vx vy vt vq vm:Value} {k Q M n:Nat} (h:zdb w wr X Y T vx vy vt vq vm k Q M) (hT:T < 18446744073709551616^n) (hY:Y < 18446744073709551616^n):(wd 18446744073709551616 M).length≤n+1 :=
 Nat.le_trans (av (Nat.le_of_lt h.inv.lt)) (zbs T Y n hT hY)
theorem zdb.qmv {w wr:World} {X Y T:Nat} {vx vy vt vq vm:Value} {k Q M n:Nat} (h:zdb w wr X Y T vx vy vt vq vm k Q M) (hY0:0<Y) (hT:T < 18446744073709551616^n) (hX:X < 18446744073709551616^n):(wd 18446744073709551616 Q).length≤n+1:=by(
 have h3:Q≤X+T:=by
  rw[h.inv.eq]
  exact Nat.le_trans (Nat.le_mul_of_pos_right Q hY0) (Nat.le_add_right _ _)
 exact Nat.le_trans (av h3) (zbs X T n hX hT))
theorem zdn (vx vy:Value) (X Y n:Nat) (w:World) (hx:Sl .u64 w vx (wd 18446744073709551616 X)) (hy:Sl .u64 w vy (wd 18446744073709551616 Y)) (hY:0<Y / 18446744073709551616^n) (hD:ic (X / 18446744073709551616^n) (Y / 18446744073709551616^n)) (hl:(wd 18446744073709551616 X).length+(wd 18446744073709551616 Y).length+n<33554432) :
   Calls prog 267 #[vx,vy,.int .i64 (n:Int)] w fun e w'=>∃ v1 v2,e=.returned (.tuple #[v1,v2])∧Sl .u64 w' v1 (wd 18446744073709551616 (X/Y))∧Sl .u64 w' v2 (wd 18446744073709551616 (X%Y))∧But [] w w'∧jh w vx w' v2:=by(
 have hP:0 < 18446744073709551616^n:=Nat.pow_pos (by omega)
 have hY0:0<Y:=by
  rcases Nat.eq_zero_or_pos Y with h | h
  ·rw[h,Nat.zero_div] at hY;omega
  ·exact h
 have ST:=zck.start X Y (18446744073709551616^n) hP hY
 obtain⟨q0,hq0⟩:∃ q0,q0=X / 18446744073709551616^n/(Y / 18446744073709551616^n):=⟨_,rfl⟩
 obtain⟨s0,hs0⟩:∃ s0,s0=X / 18446744073709551616^n%(Y / 18446744073709551616^n):=⟨_,rfl⟩
 obtain⟨T,hT⟩:∃ T,T=q0*(Y % 18446744073709551616^n):=⟨_,rfl⟩
 rw[← hq0,← hs0,← hT] at ST
 have HX1:=af (ru vx X n w hx (by omega) (by omega))
 have HY1:=af (ru vy Y n w hy (by omega) (by omega))
 have ql:(wd 18446744073709551616 q0).length≤(wd 18446744073709551616 X).length:=av (by rw[hq0];exact Nat.le_trans (Nat.div_le_self _ _) (Nat.div_le_self _ _))
 have yl:(wd 18446744073709551616 (Y % 18446744073709551616^n)).length≤(wd 18446744073709551616 Y).length:=zro n Y
 have sl:(wd 18446744073709551616 s0).length≤(wd 18446744073709551616 Y).length:=av (by rw[hs0];exact Nat.le_trans (Nat.le_of_lt (Nat.mod_lt _ hY)) (Nat.div_le_self _ _))
 have tl:(wd 18446744073709551616 T).length≤(wd 18446744073709551616 X).length+(wd 18446744073709551616 Y).length:=by
  have:=jg q0 (Y % 18446744073709551616^n)
  rw[hT];omega
 have DV:Hid (∀ W v1 v2,Sl .u64 W v1 (wd 18446744073709551616 (X / 18446744073709551616^n))→Sl .u64 W v2 (wd 18446744073709551616 (Y / 18446744073709551616^n))→Calls prog 224 #[v1,v2] W fun e w'=>∃ v3 v4,e=.returned (.tuple #[v3,v4])∧Sl .u64 w' v3 (wd 18446744073709551616 q0)∧Sl .u64 w' v4 (wd 18446744073709551616 s0)∧But [] W w'):=by
  rw[hq0,hs0];exact fun W v1 v2 h1 h2=>(hD v1 v2 W h1 h2).mono fun e w' ⟨a,b,h3,h4,h5,h6,_⟩=>⟨a,b,h3,h4,h5,h6⟩
 have LX:=af (fun W (h:Sl .u64 W vx (wd 18446744073709551616 X))=>zjf vx X n W h (by omega) (by omega))
 have LY:=af (fun W (h:Sl .u64 W vy (wd 18446744073709551616 Y))=>zdy vy Y n W h (by omega) (by omega))
 have AB:=af (fun W v1 v2 (h1:Sl .u64 W v1 (wd 18446744073709551616 s0)) (h2:Sl .u64 W v2 (wd 18446744073709551616 (X % 18446744073709551616^n)))=>zbi v1 v2 s0 (X % 18446744073709551616^n) n W h1 h2 (Nat.mod_lt _ hP) (by omega))
 have MU:Hid (∀ W v1 v2,Sl .u64 W v1 (wd 18446744073709551616 q0)→Sl .u64 W v2 (wd 18446744073709551616 (Y % 18446744073709551616^n))→Calls prog 171 #[v1,v2] W fun e w'=>∃ v',e=.returned v'∧Sl .u64 w' v' (wd 18446744073709551616 T)∧But [] W w'):=fun W v1 v2 h1 h2=>by
  rw[hT]
  exact (j5 v1 v2 q0 _ W h1 h2 (by omega)).mono fun e w' ⟨v',he,hv,hb,_⟩=>⟨v',he,hv,hb⟩
 have HX:=af hx
 have HY:=af hy
 have HS:=af ST
 have pw:∀ Z l,(wd 18446744073709551616 Z).length≤l→l≤(wd 18446744073709551616 X).length+(wd 18446744073709551616 Y).length→Z < 18446744073709551616^((wd 18446744073709551616 X).length+(wd 18446744073709551616 Y).length):=fun Z l h1 h2=>Nat.lt_of_lt_of_le (ak (by omega) Z l h1) (Nat.pow_le_pow_right (by omega) h2)
 have HL:=af (And.intro (pw T _ tl (Nat.le_refl _)) (And.intro (pw X _ (Nat.le_refl _) (by omega)) (And.intro (pw Y _ (Nat.le_refl _) (by omega)) (And.intro hl hY0))))
 obtain⟨M0,hM0⟩:∃ M0,M0=s0 * 18446744073709551616^n+X % 18446744073709551616^n:=⟨_,rfl⟩
 rw[← hM0] at AB HS
 obtain⟨a1,c1,rfl,-,-⟩:=hx
 obtain⟨a2,c2,rfl,-,-⟩:=hy
 clear hP hY hD ST hq0 hs0 hT ql yl sl tl hM0 hl hY0 pw
 generalize (wd 18446744073709551616 X).length=nx at *
 generalize (wd 18446744073709551616 Y).length=ny at *
 go_enter func267,ntmps267
 go_wp2_with fail
 refine (ae HX1).mono ?_
 rintro e1 w1 ⟨v1,rfl,hv1,hw⟩
 obtain rfl:=hw.symm
 clear hw
 have HV1:=af hv1
 clear hv1
 go_wp2_with fail
 refine (ae HY1).mono ?_
 rintro e2 w2 ⟨v2,rfl,hv2,hw⟩
 obtain rfl:=hw.symm
 clear hw
 have HV2:=af hv2
 clear hv2
 go_wp2_with fail
 refine (ae DV _ _ _ (ae HV1) (ae HV2)).mono ?_
 rintro e3 w3 ⟨v3,v4,rfl,hv3,hv4,hb3⟩
 have B3:=af hb3
 have HV3:=af hv3
 have HV4:=af hv4
 clear hb3 hv3 hv4 DV HX1 HY1
 go_wp2_with fail
 refine (ae LX _ ((ae HX).ah (ae B3))).mono ?_
 rintro e4 w4 ⟨v5,rfl,hv5,hw,he5⟩
 obtain rfl:=hw.symm
 clear hw
 have HV5:=af hv5
 have HE5:Hid (jh w (.slice a1 nx c1) _ v5):=he5.pre (ae B3).size
 clear hv5 he5 LX
 go_wp2_with fail
 refine (ae AB _ _ _ (ae HV4) (ae HV5)).mono ?_
 rintro e5 w5 ⟨v6,rfl,hv6,hb5,hp5⟩
 have HV6:=af hv6
 have HE6:Hid (jh w (.slice a1 nx c1) w5 v6):=by
  rcases hp5 with ⟨-,rfl⟩ | ho
  ·exact (ae HE5).but (ae HV5) hb5
  ·exact (jh.zfe ho).pre (ae B3).size
 have HV3':=af ((ae HV3).ah hb5)
 have B5:Hid (But [] _ w5):=(ae B3).trans' hb5
 have HY5:=af ((ae HY).ah (ae B5))
 clear hv6 hb5 hp5 AB HV1 HV2 HV3 HV4 HV5 B3 HX HE5
 go_wp2_with fail
 refine (ae LY _ (ae HY5)).mono ?_
 rintro e6 w6 ⟨v7,rfl,hv7,hw⟩
 obtain rfl:=hw.symm
 clear hw
 have HV7:=af hv7
 clear hv7 LY
 go_wp2_with fail
 refine (ae MU _ _ _ (ae HV3') (ae HV7)).mono ?_
 rintro e7 w7 ⟨v8,rfl,hv8,hb7⟩
 have I0:=af (zdb.mk ((ae HV3').ah hb7) ((ae HV6).ah hb7) ((ae HY5).ah hb7) hv8 (ae HS) rfl ((ae B5).trans' hb7) (fun _=>(ae HE6).but (ae HV6) hb7))
 clear HE6 hv8 hb7 MU HV3' HV6 HV7 HY5 B5 HY HS
 go_wp2_with fail
 go_loopg [8,10] (T-M0) (fun k vq vm wr=>Hid (∃ Q M,zdb w wr X Y T (.slice a1 nx c1) (.slice a2 ny c2) v8 vq vm k Q M))
 case atStart=>exact⟨q0,M0,ae I0⟩
 case round =>(
 clear I0
 obtain⟨Q,M,I⟩:=ae hrel
 clear hrel
 obtain⟨pT,pX,pY,hl,hY0⟩:=ae HL
 have ml:=I.len pT pY
 have qll:=I.qmv hY0 pT pX
 have tl:(wd 18446744073709551616 T).length≤nx+ny:=aj (by omega) _ _ pT
 have yl:(wd 18446744073709551616 Y).length≤nx+ny:=aj (by omega) _ _ pY
 have CM:=af (ky _ _ M T wr I.m I.t (by omega) (by omega))
 have HI:=af I
 rcases Nat.lt_or_ge M T with hlt | hge
 ·(
 rw[u6 hlt] at CM
 have hq1:=I.inv.pos hlt
 have NX:=af (I.inv.next hlt)
 have SB:=af (fun W v1 v2 (h1:Sl .u64 W v1 (wd 18446744073709551616 Q)) (h2:Sl .u64 W v2 (wd 18446744073709551616 1))=>zbz v1 v2 Q 1 W h1 h2 (by omega) hq1)
 have AD:=af (fun W v1 v2 (h1:Sl .u64 W v1 (wd 18446744073709551616 M)) (h2:Sl .u64 W v2 (wd 18446744073709551616 Y))=>zca v1 v2 M Y W h1 h2 (by omega) (by omega))
 have MS:Hid (T-(M+Y)<gk):=by
  have:=I.k
  show _<_
  omega
 clear I ml qll tl yl pT pX pY hl hq1
 go_wp2_with fail
 refine (ae CM).mono ?_
 rintro e8 w8 ⟨rfl,q,rfl⟩
 have bq:But [] wr (wr.drewN q):=(But.refl _ _).drewN q
 have J8:=af bq
 clear bq CM
 go_wp2_with fail
 refine (rf 1 (by omega) _).mono ?_
 rintro e9 w9 ⟨v9,rfl,hv9,hb9,-⟩
 have J9:Hid (But [] wr w9):=(ae J8).trans' hb9
 have HV9:=af hv9
 clear hv9 hb9 J8
 go_wp2_with fail
 refine (ae SB _ _ _ ((ae HI).q.ah (ae J9)) (ae HV9)).mono ?_
 rintro e10 w10 ⟨v10,rfl,hv10,hb10⟩
 have J10:Hid (But [] wr w10):=(ae J9).trans' hb10
 have HV10:=af hv10
 clear hv10 hb10 J9 HV9 SB
 go_wp2_with fail
 refine (ae AD _ _ _ ((ae HI).m.ah (ae J10)) ((ae HI).y.ah (ae J10))).mono ?_
 rintro e11 w11 ⟨v11,rfl,hv11,hb11⟩
 have J11:=(ae J10).trans' hb11
 have R:Hid (zdb w w11 X Y T (.slice a1 nx c1) (.slice a2 ny c2) v8 v10 v11 (T-(M+Y)) (Q-1) (M+Y)):=af (zdb.mk ((ae HV10).ah hb11) hv11 ((ae HI).y.ah J11) ((ae HI).t.ah J11) (ae NX) rfl ((ae HI).but.trans' J11) (fun h0=>absurd h0 (by omega)))
 clear hv11 hb11 J11 J10 HV10 AD NX HI
 go_wp2
 go_roundg (T-(M+Y))
 case measure=>exact ae MS
 case rel=>exact⟨_,_,ae R⟩)
 ·(
 have hc0:=zbl hge
 generalize zy M T=r at *
 have hr:decide (r<0)=false:=by simp;omega
 have hr':¬ r<0:=by omega
 obtain⟨f1,f2⟩:=I.inv.fin hge
 have FE:=af (And.intro f1 f2)
 have SB:=af (fun W v1 v2 (h1:Sl .u64 W v1 (wd 18446744073709551616 M)) (h2:Sl .u64 W v2 (wd 18446744073709551616 T))=>qag v1 v2 M T W h1 h2 (by omega) hge)
 clear I ml qll tl yl pT pX pY hl f1 f2
 go_wp2_with fail
 refine (ae CM).mono ?_
 rintro e8 w8 ⟨rfl,q,rfl⟩
 have J8:Hid (But [] wr (wr.drewN q)):=(But.refl _ _).drewN q
 clear CM
 go_wp2_with fail
 refine (ae SB _ _ _ ((ae HI).m.ah (ae J8)) ((ae HI).t.ah (ae J8))).mono ?_
 rintro e9 w9 ⟨v9,rfl,hv9,hb9,hp9⟩
 have J9:=(ae J8).trans' hb9
 have HE:jh w (.slice a1 nx c1) w9 v9:=by
  rcases hp9 with ⟨hT0,rfl⟩ | ho
  ·exact ((ae HI).heir hT0).but (ae HI).m J9
  ·exact (jh.zfe ho).pre ((ae HI).but.trans' (ae J8)).size
 have FIN:=af (And.intro ((ae HI).q.ah J9) (And.intro hv9 (And.intro ((ae HI).but.trans' J9) HE)))
 clear hv9 hb9 hp9 HE J9 J8 SB HI
 go_wp2
 go_ret2
 exact⟨_,_,rfl,by rw[(ae FE).1];exact (ae FIN).1,by rw[(ae FE).2];exact (ae FIN).2.1,(ae FIN).2.2⟩)))
theorem zjo (vx vy:Value) (X Y n:Nat) (w:World) (hx:Sl .u64 w vx (wd 18446744073709551616 X)) (hy:Sl .u64 w vy (wd 18446744073709551616 Y)) (hY:0<Y / 18446744073709551616^n) (hD1:ic (X / 18446744073709551616^n / 18446744073709551616^n) (Y / 18446744073709551616^n)) (hD2:ic (X / 18446744073709551616^n%Y) (Y / 18446744073709551616^n)) (hl:(wd 18446744073709551616 X).length+(wd 18446744073709551616 Y).length+n<8388608) :
   Calls prog 254 #[vx,vy,.int .i64 (n:Int)] w fun e w'=>∃ v1 v2,e=.returned (.tuple #[v1,v2])∧Sl .u64 w' v1 (wd 18446744073709551616 (X/Y))∧Sl .u64 w' v2 (wd 18446744073709551616 (X%Y))∧But [] w w'∧jh w vx w' v2:=by(
 have hP:0 < 18446744073709551616^n:=Nat.pow_pos (by omega)
 have hY0:0<Y:=by
  rcases Nat.eq_zero_or_pos Y with h | h
  ·rw[h,Nat.zero_div] at hY;omega
  ·exact h
 obtain⟨h0,hh0⟩:∃ h0,h0=X / 18446744073709551616^n/Y:=⟨_,rfl⟩
 obtain⟨r0,hr0⟩:∃ r0,r0=X / 18446744073709551616^n%Y:=⟨_,rfl⟩
 obtain⟨Z,hZ⟩:∃ Z,Z=r0 * 18446744073709551616^n+X % 18446744073709551616^n:=⟨_,rfl⟩
 have e1:X / 18446744073709551616^n=h0*Y+r0:=by rw[hh0,hr0,Nat.mul_comm];exact (Nat.div_add_mod _ _).symm
 have e2:r0 * 18446744073709551616^n+X % 18446744073709551616^n=Z/Y*Y+Z%Y:=by rw[← hZ,Nat.mul_comm];exact (Nat.div_add_mod _ _).symm
 obtain⟨f1,f2⟩:=halves X Y (18446744073709551616^n) h0 r0 (Z/Y) (Z%Y) e1 e2 (Nat.mod_lt _ hY0)
 have hZP:Z / 18446744073709551616^n=r0:=by rw[hZ,Nat.mul_comm,Nat.mul_add_div hP,Nat.div_eq_of_lt (Nat.mod_lt _ hP),Nat.add_zero]
 have rl:(wd 18446744073709551616 r0).length≤(wd 18446744073709551616 Y).length:=av (by rw[hr0];exact Nat.le_of_lt (Nat.mod_lt _ hY0))
 have hl1:(wd 18446744073709551616 (X / 18446744073709551616^n)).length≤(wd 18446744073709551616 X).length:=av (Nat.div_le_self _ _)
 have zl:(wd 18446744073709551616 Z).length≤(wd 18446744073709551616 Y).length+n:=by
  have:=j4 n Z
  rw[hZP] at this
  omega
 have hhl:(wd 18446744073709551616 h0).length≤(wd 18446744073709551616 X).length:=av (by rw[hh0];exact Nat.le_trans (Nat.div_le_self _ _) (Nat.div_le_self _ _))
 have hll:(wd 18446744073709551616 (Z/Y)).length≤(wd 18446744073709551616 Y).length+n:=Nat.le_trans (av (Nat.div_le_self _ _)) zl
 rw[← hr0] at hD2
 have HI:=af (ru vx X n w hx (by omega) (by omega))
 have DM1:Hid (∀ W v,Sl .u64 W v (wd 18446744073709551616 (X / 18446744073709551616^n))→Sl .u64 W vy (wd 18446744073709551616 Y)→Calls prog 267 #[v,vy,.int .i64 (n:Int)] W fun e w'=>∃ v1 v2,e=.returned (.tuple #[v1,v2])∧Sl .u64 w' v1 (wd 18446744073709551616 h0)∧Sl .u64 w' v2 (wd 18446744073709551616 r0)∧But [] W w'):=fun W v h1 h2=>by
  rw[hh0,hr0]
  exact (zdn v vy _ Y n W h1 h2 hY hD1 (by omega)).mono fun e w' ⟨a,b,h3,h4,h5,h6,_⟩=>⟨a,b,h3,h4,h5,h6⟩
 have LX:=af (fun W (h:Sl .u64 W vx (wd 18446744073709551616 X))=>zjf vx X n W h (by omega) (by omega))
 have AB:Hid (∀ W v1 v2,Sl .u64 W v1 (wd 18446744073709551616 r0)→Sl .u64 W v2 (wd 18446744073709551616 (X % 18446744073709551616^n))→Calls prog 266 #[v1,.int .i64 (n:Int),v2] W fun e w'=>∃ v',e=.returned v'∧Sl .u64 w' v' (wd 18446744073709551616 Z)∧But [] W w'∧(v'=v2∨Own W.heap.size w' v')):=fun W v1 v2 h1 h2=>by
  rw[hZ]
  exact (zbi v1 v2 r0 _ n W h1 h2 (Nat.mod_lt _ hP) (by omega)).mono fun e w' ⟨v',he,hv,hb,hp⟩=>⟨v',he,hv,hb,hp.elim (fun h=>.inl h.2) .inr⟩
 have DM2:Hid (∀ W v,Sl .u64 W v (wd 18446744073709551616 Z)→Sl .u64 W vy (wd 18446744073709551616 Y)→Calls prog 267 #[v,vy,.int .i64 (n:Int)] W fun e w'=>∃ v1 v2,e=.returned (.tuple #[v1,v2])∧Sl .u64 w' v1 (wd 18446744073709551616 (Z/Y))∧Sl .u64 w' v2 (wd 18446744073709551616 (Z%Y))∧But [] W w'∧jh W v w' v2):=fun W v h1 h2=>zdn v vy Z Y n W h1 h2 hY (by rw[hZP];exact hD2) (by omega)
 have AH:Hid (∀ W v1,Sl .u64 W v1 (wd 18446744073709551616 h0)→Calls prog 266 #[v1,.int .i64 (n:Int),.slice none 0 0] W fun e w'=>∃ v',e=.returned v'∧Sl .u64 w' v' (wd 18446744073709551616 (h0 * 18446744073709551616^n))∧But [] W w'):=fun W v1 h1=>by
  refine (zbi v1 (.slice none 0 0) h0 0 n W h1 (by rw[zo];exact Sl.nil _ _) hP (by omega)).mono fun e w' ⟨v',he,hv,hb,_⟩=>⟨v',he,?_,hb⟩
  rw[Nat.add_zero] at hv
  exact hv
 have ahl:(wd 18446744073709551616 (h0 * 18446744073709551616^n)).length≤(wd 18446744073709551616 X).length+(n+1):=by
  have h1:=jg h0 (18446744073709551616^n)
  have h2:(wd 18446744073709551616 (18446744073709551616^n)).length≤n+1:=aj (by omega) _ _ (Nat.pow_lt_pow_right (by omega) (by omega))
  omega
 have AD:Hid (∀ W v1 v2,Sl .u64 W v1 (wd 18446744073709551616 (h0 * 18446744073709551616^n))→Sl .u64 W v2 (wd 18446744073709551616 (Z/Y))→Calls prog 183 #[v1,v2] W fun e w'=>∃ v',e=.returned v'∧Sl .u64 w' v' (wd 18446744073709551616 (X/Y))∧But [] W w'):=fun W v1 v2 h1 h2=>by
  rw[f1]
  exact zca v1 v2 _ _ W h1 h2 (by omega) (by omega)
 have HX:=af hx
 have HY:=af hy
 have FE:=af f2
 obtain⟨a1,c1,rfl,-,-⟩:=hx
 obtain⟨a2,c2,rfl,-,-⟩:=hy
 clear hP hY hD1 hD2 hh0 hr0 hZ e1 e2 f1 f2 hZP rl hl1 zl hhl hll ahl hl hY0
 generalize (wd 18446744073709551616 X).length=nx at *
 generalize (wd 18446744073709551616 Y).length=ny at *
 generalize h0 * 18446744073709551616^n=H at *
 go_enter func254,ntmps254
 go_wp2_with fail
 refine (ae HI).mono ?_
 rintro e1 w1 ⟨v1,rfl,hv1,hw⟩
 obtain rfl:=hw.symm
 clear hw
 have HV1:=af hv1
 clear hv1 HI
 go_wp2_with fail
 refine (ae DM1 _ _ (ae HV1) (ae HY)).mono ?_
 rintro e2 w2 ⟨v2,v3,rfl,hv2,hv3,hb2⟩
 have HV2:=af hv2
 have HV3:=af hv3
 have B2:=af hb2
 clear hv2 hv3 hb2 HV1 DM1
 go_wp2_with fail
 refine (ae LX _ ((ae HX).ah (ae B2))).mono ?_
 rintro e3 w3 ⟨v4,rfl,hv4,hw,he4⟩
 obtain rfl:=hw.symm
 clear hw
 have HV4:=af hv4
 have HE4:Hid (jh w (.slice a1 nx c1) _ v4):=he4.pre (ae B2).size
 clear hv4 he4 LX
 go_wp2_with fail
 refine (ae AB _ _ _ (ae HV3) (ae HV4)).mono ?_
 rintro e4 w4 ⟨v5,rfl,hv5,hb4,hp4⟩
 have HV5:=af hv5
 have HE5:Hid (jh w (.slice a1 nx c1) w4 v5):=by
  rcases hp4 with rfl | ho
  ·exact (ae HE4).but (ae HV4) hb4
  ·exact (jh.zfe ho).pre (ae B2).size
 have B4:=af ((ae B2).trans' hb4)
 have HV2':=af ((ae HV2).ah hb4)
 clear hv5 hb4 hp4 HE4 HV3 HV4 AB HV2 B2
 go_wp2_with fail
 refine (ae DM2 _ _ (ae HV5) ((ae HY).ah (ae B4))).mono ?_
 rintro e5 w5 ⟨v6,v7,rfl,hv6,hv7,hb5,he7⟩
 have HE7:Hid (jh w (.slice a1 nx c1) w5 v7):=(ae HE5).trans (ae HV5) hb5 (ae B4).size he7
 have HV6:=af hv6
 have HV7:=af hv7
 have B5:=af ((ae B4).trans' hb5)
 have HV25:=af ((ae HV2').ah hb5)
 clear hv6 hv7 hb5 he7 HE5 HV5 HV2' B4 DM2
 go_wp2_with fail
 first
  | refine (ae AH _ _ (ae HV25)).mono ?_
  | trace_state
 rintro e6 w6 ⟨v8,rfl,hv8,hb6⟩
 have HV8:=af hv8
 have B6:=af ((ae B5).trans' hb6)
 have HV66:=af ((ae HV6).ah hb6)
 have HV76:=af ((ae HV7).ah hb6)
 have HE76:=af ((ae HE7).but (ae HV7) hb6)
 clear hv8 hb6 HE7 HV6 HV7 HV25 B5 AH
 go_wp2_with fail
 refine (ae AD _ _ _ (ae HV8) (ae HV66)).mono ?_
 rintro e7 w7 ⟨v9,rfl,hv9,hb7⟩
 have FIN:=af (And.intro hv9 (And.intro ((ae HV76).ah hb7) (And.intro ((ae B6).trans' hb7) ((ae HE76).but (ae HV76) hb7))))
 clear hv9 hb7 HE76 HV8 HV66 HV76 B6 AD
 go_wp2
 go_ret2
 exact⟨_,_,rfl,(ae FIN).1,by rw[ae FE];exact (ae FIN).2.1,(ae FIN).2.2⟩)
theorem qlg (rs qs:List Nat) (i:Nat) (hl:i+qs.length≤rs.length) (hz:∀ j,i≤j→j<i+qs.length→rs[j]?.getD 0=0):vl 18446744073709551616 (rs.take i++qs++rs.drop (i+qs.length))=vl 18446744073709551616 rs + 18446744073709551616^i*vl 18446744073709551616 qs:=by(
 have hti:(rs.take i).length=i:=by rw[List.length_take];omega
 have hmid:((rs.drop i).take qs.length).length=qs.length:=by rw[List.length_take,List.length_drop];omega
 have hz0:vl 18446744073709551616 ((rs.drop i).take qs.length)=0:=zbt 18446744073709551616 _ (fun j hj=>by
  rw[hmid] at hj
  rw[List.getElem?_take_of_lt hj,List.getElem?_drop]
  exact hz (i+j) (by omega) (by omega))
 have e:rs=rs.take i++(rs.drop i).take qs.length++rs.drop (i+qs.length):=by
  rw[List.append_assoc,← List.drop_drop,List.take_append_drop,List.take_append_drop]
 have h2:=congrArg (vl 18446744073709551616) e
 rw[qd,qd,List.length_append,hti,hmid,hz0] at h2
 rw[qd,qd,List.length_append,hti]
 omega)
structure zcj (X Y nx top:Nat) (rs:List Nat):Prop where
 len:rs.length=nx
 mem:∀ x ∈ rs,x < 18446744073709551616
 zero:∀ j,j<top→rs[j]?.getD 0=0
 val:vl 18446744073709551616 rs=18446744073709551616^top*(X / 18446744073709551616^top/Y)
theorem zcj.start (X Y nx top:Nat) (h:nx≤top) (hX:X < 18446744073709551616^nx):zcj X Y nx top (List.replicate nx 0):=by(
 refine⟨by simp,fun x hx=>by rw[List.mem_replicate] at hx;omega,fun j _=>by rw[List.getElem?_replicate];split <;> rfl,?_⟩
 have h1:X / 18446744073709551616^top=0:=Nat.div_eq_of_lt (Nat.lt_of_lt_of_le hX (Nat.pow_le_pow_right (by omega) h))
 rw[jc,h1,Nat.zero_div,Nat.mul_zero])
theorem zor (X Y i n:Nat) (hY0:0<Y) (hY:Y < 18446744073709551616^n) (D:Nat) (hD:D=X / 18446744073709551616^(i+n)%Y * 18446744073709551616^n+X / 18446744073709551616^i % 18446744073709551616^n) :
   X / 18446744073709551616^i/Y=X / 18446744073709551616^(i+n)/Y * 18446744073709551616^n+D/Y∧X / 18446744073709551616^i%Y=D%Y∧D/Y < 18446744073709551616^n∧D/Y≤X / 18446744073709551616^i∧D < 18446744073709551616^(n+n):=by(
 have hP:0 < 18446744073709551616^n:=Nat.pow_pos (by omega)
 have e1:X / 18446744073709551616^(i+n)=X / 18446744073709551616^i / 18446744073709551616^n:=by rw[Nat.pow_add,Nat.div_div_eq_div_mul]
 rw[e1] at hD ⊢
 generalize X / 18446744073709551616^i=A at *
 have hr:=Nat.mod_lt (A / 18446744073709551616^n) hY0
 have hp:=Nat.mod_lt A hP
 obtain⟨f1,f2⟩:=halves A Y (18446744073709551616^n) (A / 18446744073709551616^n/Y) (A / 18446744073709551616^n%Y) (D/Y) (D%Y) (by rw[Nat.mul_comm];exact (Nat.div_add_mod _ _).symm) (by rw[← hD,Nat.mul_comm (D/Y)];exact (Nat.div_add_mod _ _).symm) (Nat.mod_lt _ hY0)
 have hDl:D<Y * 18446744073709551616^n:=by
  have h1:(A / 18446744073709551616^n%Y+1) * 18446744073709551616^n≤Y * 18446744073709551616^n:=Nat.mul_le_mul_right _ hr
  rw[Nat.succ_mul] at h1
  omega
 refine⟨f1,f2,Nat.div_lt_of_lt_mul hDl,?_,?_⟩
 ·have:A/Y≤A:=Nat.div_le_self _ _
  omega
 ·rw[Nat.pow_add]
  exact Nat.lt_of_lt_of_le hDl (Nat.mul_le_mul_right _ (Nat.le_of_lt hY)))
theorem zcj.step {X Y nx i n:Nat} {rs:List Nat} (h:zcj X Y nx (i+n) rs) (hY0:0<Y) (hY:Y < 18446744073709551616^n) (D:Nat) (hD:D=X / 18446744073709551616^(i+n)%Y * 18446744073709551616^n+X / 18446744073709551616^i % 18446744073709551616^n) (hl:i+(wd 18446744073709551616 (D/Y)).length≤nx) :
   zcj X Y nx i (rs.take i++wd 18446744073709551616 (D/Y)++rs.drop (i+(wd 18446744073709551616 (D/Y)).length)):=by(
 obtain⟨f1,-,f3,-,-⟩:=zor X Y i n hY0 hY D hD
 have hq:(wd 18446744073709551616 (D/Y)).length≤n:=aj (by omega) _ _ f3
 have hlen:=h.len
 have hti:(rs.take i).length=i:=by rw[List.length_take];omega
 refine⟨?_,?_,?_,?_⟩
 ·rw[List.length_append,List.length_append,hti,List.length_drop];omega
 ·(
 intro x hx
 rw[List.mem_append,List.mem_append] at hx
 rcases hx with (hx | hx) | hx
 ·exact h.mem x (List.mem_of_mem_take hx)
 ·exact zt (by omega) _ x hx
 ·exact h.mem x (List.mem_of_mem_drop hx))
 ·intro j hj
  rw[List.append_assoc,List.getElem?_append_left (by rw[hti];exact hj),List.getElem?_take_of_lt hj]
  exact h.zero j (by omega)
 ·rw[qlg rs _ i (by omega) (fun j _ hj=>h.zero j (by omega)),h.val,qy (by omega),f1,Nat.pow_add,Nat.mul_add]
  congr 1
  rw[Nat.mul_assoc,Nat.mul_comm (18446744073709551616^n)])
theorem jh.over {w w1 w2:World} {vx v1:Value} {xs:List Nat} {g:Nat} (h:jh w vx w1 v1) (hs:Sl .u64 w1 v1 xs) (hb:But [g] w1 w2) (ho:Off g v1):jh w vx w2 v1:=fun b off n c e=>by
 rcases h b off n c e with ⟨h1,h2⟩ | h1
 ·refine .inl ⟨h1,fun i hi=>?_⟩
  have hn:=hs.zqn e
  have hl:=hs.lt (by omega) b off n c e
  rw[hb.frozen (p:=⟨b,off+i,none⟩) hl (by have:=ho b off n c e;simpa using this)]
  exact h2 i hi
 ·exact .inr h1
theorem jh.off {w w1:World} {vx v1:Value} {g:Nat} (h:jh w vx w1 v1) (hg:g<w.heap.size) (hx:Off g vx):Off g v1:=fun b off n c e=>by
 rcases h b off n c e with ⟨h1,-⟩|⟨o0,n0,c0,e0,-,-⟩
 ·omega
 ·exact hx _ _ _ _ e0
theorem qhh {w:World} {g nx i:Nat} {rs qs:List Nat} {vq:Value} (hs:Seg w g 0 rs) (hl:rs.length=nx) (hq:Sl .u64 w vq qs) (hi:i+qs.length≤nx):∃ w',(∀ ty,(Builtin.copy_ #[102,103] ty #[.slice (some ⟨g,i,none⟩) (nx-i) (nx-i),vq]).run prog w=.ok (goInt qs.length) w')∧Hid (Seg w' g 0 (rs.take i++qs++rs.drop (i+qs.length))∧But [g] w w'):=by(
 have S2:=hs.sub i (nx-i) (by omega)
 have hsl:((rs.drop i).take (nx-i)).length=nx-i:=by rw[List.length_take,List.length_drop,hl];omega
 obtain⟨w3,hcp,HC⟩:=jl (P:=prog) w 102 103 24 underlying102 nk g (0+i) (nx-i) (nx-i) vq ((rs.drop i).take (nx-i)) qs S2 hsl.symm hq (by rw[hsl];omega)
 have S7:=(ae HC).1.sub 0 qs.length (by rw[List.length_append];omega)
 rw[List.drop_zero,List.take_left,Nat.add_zero] at S7
 have SW:=hs.whole (ae HC).2 S7 rfl (by omega)
 rw[Nat.zero_add] at SW hcp
 exact⟨w3,hcp,SW,(ae HC).2.but⟩)
def PartsAt (W:World) (vx:Value) (X Y nx n g k:Nat) (vr vi:Value) (wr:World):Prop :=
 ∃ (z:Int) (rs:List Nat),vi=.int .i64 z∧z=(k:Int)-(n:Int)∧zcj X Y nx k rs∧Seg wr g 0 rs∧Sl .u64 wr vr (wd 18446744073709551616 (X / 18446744073709551616^k%Y))∧jh W vx wr vr∧But [g] W wr∧k<nx+n∧n ∣ k
theorem zlb (vx vy:Value) (X Y:Nat) (w:World) (hx:Sl .u64 w vx (wd 18446744073709551616 X)) (hy:Sl .u64 w vy (wd 18446744073709551616 Y)) (hY:0<Y) (hX:0<X) (hD:∀ D,(wd 18446744073709551616 D).length≤(wd 18446744073709551616 Y).length+(wd 18446744073709551616 Y).length→ic D Y) (hl:(wd 18446744073709551616 X).length+(wd 18446744073709551616 Y).length<4194304) :
   Calls prog 253 #[vx,vy] w fun e w'=>∃ v1 v2,e=.returned (.tuple #[v1,v2])∧Sl .u64 w' v1 (wd 18446744073709551616 (X/Y))∧Sl .u64 w' v2 (wd 18446744073709551616 (X%Y))∧But [] w w'∧jh w vx w' v2:=by(
 have hnp:0<(wd 18446744073709551616 Y).length:=by rw[Nat.pos_iff_ne_zero];intro e;rw[zq (by omega)] at e;omega
 have hxp:0<(wd 18446744073709551616 X).length:=by rw[Nat.pos_iff_ne_zero];intro e;rw[zq (by omega)] at e;omega
 obtain⟨nx,hnx⟩:∃ nx,nx=(wd 18446744073709551616 X).length:=⟨_,rfl⟩
 obtain⟨n,hn⟩:∃ n,n=(wd 18446744073709551616 Y).length:=⟨_,rfl⟩
 have hYP:Y < 18446744073709551616^n:=by rw[hn];exact zek Y
 have hXP:X < 18446744073709551616^nx:=by rw[hnx];exact zek X
 have offx:Off w.heap.size vx:=pz hx hxp _ (Nat.le_refl _)
 have offy:Off w.heap.size vy:=pz hy hnp _ (Nat.le_refl _)
 rw[← hnx,← hn] at hl
 rw[← hnx] at hxp
 rw[← hn] at hnp hD
 have bM:=ku w nx 24
 have SM:=Seg.made w nx 24
 obtain⟨d,hd⟩:∃ d,d=(nx-1)/n:=⟨_,rfl⟩
 obtain⟨z0,hz0⟩:∃ z0,z0=d*n:=⟨_,rfl⟩
 have hz1:z0≤nx-1:=by rw[hz0,hd];exact Nat.div_mul_le_self _ _
 have hz2:nx≤z0+n:=by
  have h1:=Nat.div_add_mod (nx-1) n
  have h2:=Nat.mod_lt (nx-1) hnp
  rw[← hd,Nat.mul_comm,← hz0] at h1
  omega
 have hdl:d≤nx:=by rw[hd];exact Nat.le_trans (Nat.div_le_self _ _) (Nat.sub_le _ _)
 have hmk:=fun wx=>kw wx nx (by omega)
 obtain⟨W,hW⟩:∃ W,W=w.alloc (.cells (madeCells #[.int .u64 0] nx) 24):=⟨_,rfl⟩
 have hgW:w.heap.size<W.heap.size:=by rw[hW];simp
 rw[← hW] at bM SM
 have A0:Hid (PartsAt W vx X Y nx n w.heap.size (z0+n) (.slice none 0 0) (.int .i64 (z0:Int)) W):=by
  refine⟨(z0:Int),_,rfl,by omega,zcj.start X Y nx (z0+n) hz2 hXP,SM,?_,jh.nil _ _ _ _ _,But.refl _ _,by omega,?_⟩
  ·rw[Nat.div_eq_of_lt (Nat.lt_of_lt_of_le hXP (Nat.pow_le_pow_right (by omega) hz2)),Nat.zero_mod,zo]
   exact Sl.nil _ _
  ·rw[hz0];exact⟨d+1,by rw[Nat.mul_comm,Nat.mul_succ]⟩
 have SX:=af (hx.ah bM)
 have SY:=af (hy.ah bM)
 have OX:=af offx
 have OY:=af offy
 have BM:=af bM
 have GW:=af hgW
 have HD:=af hD
 have HYP:=af (And.intro hY hYP)
 have e1:((nx:Int)-1)/(n:Int)=(d:Int):=by rw[hd,Int.natCast_ediv,Int.natCast_sub hxp];rfl
 have e2:(d:Int)*(n:Int)=(z0:Int):=by rw[hz0,Int.natCast_mul]
 have e3:wrap64 (d:Int)=(d:Int):=by unfold wrap64;omega
 have e4:wrap64 (z0:Int)=(z0:Int):=by unfold wrap64;omega
 have n0:((n:Int)==0)=false:=beq_eq_false_iff_ne.2 (by omega)
 have HW:=af hW
 obtain⟨a1,c1,rfl,-,-⟩:=hx
 obtain⟨a2,c2,rfl,-,-⟩:=hy
 rw[← hnx] at A0 SX OX
 rw[← hn] at SY OY
 rw[← hnx,← hn]
 have NX:=af hnx.symm
 clear hnx hn hD hX offx offy bM SM hd hz0 hW hYP hXP hY hgW
 go_enter func253,ntmps253
 go_wp2_with fail
 rw[← ae HW]
 go_loopg [9,10] (z0+n) (fun k vr vi wr=>Hid (PartsAt W (.slice a1 nx c1) X Y nx n w.heap.size k vr vi wr))
 case atStart=>exact A0
 case round =>(
 clear A0 e1 e2 e3 e4
 obtain⟨z,rs,rfl,hz,hI,hS,hR,hH,hB,hk,hdv⟩:=ae hrel
 clear hrel
 obtain⟨hY,hYP⟩:=ae HYP
 have hlen:=hI.len
 by_cases hz0:z<0
 ·(
 have hgk:gk=0:=Nat.eq_zero_of_dvd_of_lt hdv (by omega)
 subst hgk
 have hv:vl 18446744073709551616 rs=X/Y:=by rw[hI.val,Nat.pow_zero,Nat.one_mul,Nat.div_one]
 rw[Nat.pow_zero,Nat.div_one] at hR
 have TR:=af (qo (.slice (some ⟨w.heap.size,0,none⟩) nx nx) rs wr (by have:=hS.sl nx (by omega);rw[hlen] at this;exact this) hI.mem (by omega))
 rw[hv] at TR
 have FIN:=af (And.intro hR (And.intro ((ae BM).trans hB (fun x hx=>by simp at hx;subst hx;exact .inr (Nat.le_refl _))) (hH.pre (ae BM).size)))
 clear hI hS hR hH hB hdv hlen hv hY hYP hz
 go_wp2_with fail
 refine (ae TR).mono ?_
 rintro e1 w1 ⟨v1,rfl,hv1,hw,-⟩
 obtain rfl:=hw.symm
 clear hw
 have HV1:=af hv1
 clear hv1 TR
 go_wp2
 go_ret2
 exact⟨_,_,rfl,ae HV1,(ae FIN).1,(ae FIN).2.1,(ae FIN).2.2⟩)
 ·(
 obtain⟨i,rfl⟩:∃ i:Nat,z=(i:Int):=⟨z.toNat,by omega⟩
 have hki:gk=i+n:=by omega
 subst hki
 obtain⟨D,hDD⟩:∃ D,D=X / 18446744073709551616^(i+n)%Y * 18446744073709551616^n+X / 18446744073709551616^i % 18446744073709551616^n:=⟨_,rfl⟩
 obtain⟨f1,f2,f3,f4,f5⟩:=zor X Y i n hY hYP D hDD
 have hq1:(wd 18446744073709551616 (D/Y)).length≤nx-i:=by
  have h1:=av f4
  have h2:=j4 i X
  rw[ae NX] at h2
  omega
 have hrl:(wd 18446744073709551616 (X / 18446744073709551616^(i+n)%Y)).length≤n:=aj (by omega) _ _ (Nat.lt_trans (Nat.mod_lt _ hY) hYP)
 have hdl:(wd 18446744073709551616 D).length≤n+n:=aj (by omega) _ _ f5
 have hxl:=j4 i X
 rw[ae NX] at hxl
 have sx:=(ae SX).but hB (fun b off cap m e=>by have:=ae OX b off m cap e;simpa using this)
 have sy:=(ae SY).but hB (fun b off cap m e=>by have:=ae OY b off m cap e;simpa using this)
 have HI:=af (zvt _ X i wr sx (by omega))
 have LO:=af (fun v1 (h:Sl .u64 wr v1 (wd 18446744073709551616 (X / 18446744073709551616^i)))=>zjf v1 _ n wr h (by omega) (by omega))
 have AB:Hid (∀ v2,Sl .u64 wr v2 (wd 18446744073709551616 (X / 18446744073709551616^i % 18446744073709551616^n))→Calls prog 266 #[u9,.int .i64 (n:Int),v2] wr fun e w'=>∃ v',e=.returned v'∧Sl .u64 w' v' (wd 18446744073709551616 D)∧But [] wr w'∧(v'=v2∨Own wr.heap.size w' v')):=fun v2 h=>by
  rw[hDD]
  exact (zbi u9 v2 _ _ n wr hR h (Nat.mod_lt _ (Nat.pow_pos (by omega))) (by omega)).mono fun e w' ⟨v',he,hv,hb,hp⟩=>⟨v',he,hv,hb,hp.elim (fun h=>.inl h.2) .inr⟩
 have DV:=af (ae HD D hdl)
 unfold ic at DV
 rw[← f2] at DV
 have STEP:=af (hI.step hY hYP D hDD (by omega))
 have KEEP:=af (And.intro hS (And.intro hB (And.intro hlen (And.intro sx sy))))
 have HQ:=af hq1
 have HDV:=af hdv
 have i1:(0:Int)≤(i:Int):=by omega
 have i2:(i:Int)<(nx:Int):=by omega
 have i3:i<nx:=by omega
 obtain⟨ar,cr,rfl,-,-⟩:=hR
 generalize (wd 18446744073709551616 (X / 18446744073709551616^(i+n)%Y)).length=lr at *
 clear hI hS hH hB hdv hlen hY hYP hz hDD f1 f2 f3 f4 f5 hq1 hrl hdl hxl sx sy hz0
 go_wp2_with fail
 refine (ae HI).mono ?_
 rintro e1 w1 ⟨v1,rfl,hv1,hw,he1⟩
 obtain rfl:=hw.symm
 clear hw
 have HV1:=af hv1
 have HE1:=af he1
 clear hv1 he1 HI
 go_wp2_with fail
 refine (ae LO _ (ae HV1)).mono ?_
 rintro e2 w2 ⟨v2,rfl,hv2,hw,he2⟩
 obtain rfl:=hw.symm
 clear hw
 have HV2:=af hv2
 have HE2:=af ((ae HE1).trans (ae HV1) (But.refl _ _) (Nat.le_refl _) he2)
 clear hv2 he2 LO HE1 HV1
 go_wp2_with fail
 refine (ae AB _ (ae HV2)).mono ?_
 rintro e3 w3 ⟨v3,rfl,hv3,hb3,hp3⟩
 have HV3:=af hv3
 have B3:=af hb3
 have HE3:Hid (jh wr (.slice a1 nx c1) w3 v3):=by
  rcases hp3 with rfl | ho
  ·exact (ae HE2).but (ae HV2) hb3
  ·exact jh.zfe ho
 clear hv3 hb3 hp3 AB HE2 HV2
 go_wp2_with fail
 refine (ae DV _ _ _ (ae HV3) ((ae KEEP).2.2.2.2.ah (ae B3))).mono ?_
 rintro e4 w4 ⟨v4,v5,rfl,hv4,hv5,hb4,he4⟩
 have b4:=(ae B3).trans' hb4
 have he5:=((ae HE3).trans (ae HV3) hb4 (ae B3).size he4).pre (ae KEEP).2.1.size
 have off5:=he5.off (ae GW) (ae OX)
 obtain⟨w5,hcp,HC⟩:=qhh (i:=i) (nx:=nx) ((ae KEEP).1.ah b4) (ae KEEP).2.2.1 hv4 (by have:=ae HQ;omega)
 have s5:=hv5.but (ae HC).2 (fun b off cap m e=>by have:=off5 b off m cap e;simpa using this)
 have R:Hid (PartsAt W (.slice a1 nx c1) X Y nx n w.heap.size i v5 (.int .i64 ((i:Int)-(n:Int))) w5) :=
  ⟨_,_,rfl,rfl,ae STEP,(ae HC).1,s5,he5.over hv5 (ae HC).2 off5,((ae KEEP).2.1.trans (But.of_nil b4) (fun x hx=>.inl hx)).trans (ae HC).2 (fun x hx=>.inl hx),by omega,(Nat.dvd_add_iff_left (Nat.dvd_refl n)).2 (ae HDV)⟩
 obtain⟨a4,c4,rfl,-,-⟩:=hv4
 clear hv5 hb4 he4 b4 he5 off5 HC s5 HE3 HV3 B3 DV KEEP STEP HDV
 generalize (wd 18446744073709551616 (D/Y)).length=lq at *
 go_wp2
 go_roundg i
 case measure=>omega
 case rel=>exact ae R)))
theorem zkw (X Y:Nat) (hlt:X<Y) (hl:(wd 18446744073709551616 Y).length<268435456):ic X Y:=by(
 intro vx vy w hx hy
 have hlen:=av (Nat.le_of_lt hlt)
 have hcmp:=ky vx vy X Y w hx hy (by omega) (by omega)
 rw[u6 hlt] at hcmp
 rw[Nat.div_eq_of_lt hlt,Nat.mod_eq_of_lt hlt,zo]
 have HC:=af hcmp
 have HX:=af hx
 obtain⟨a1,c1,rfl,-,-⟩:=hx
 obtain⟨a2,c2,rfl,-,-⟩:=hy
 clear hcmp
 generalize (wd 18446744073709551616 X).length=nx at *
 generalize (wd 18446744073709551616 Y).length=ny at *
 go_enter func224,ntmps224
 go_wp2_with fail
 refine (ae HC).mono ?_
 rintro e w1 ⟨rfl,q,rfl⟩
 go_wp2
 go_ret2
 exact⟨_,_,rfl,Sl.nil _ _,ae HX,(But.refl _ _).drewN q,jh.self _ _ _⟩)
theorem zqw (X Y:Nat) (hle:Y≤X) (h80:80≤(wd 18446744073709551616 Y).length) (hp:(wd 18446744073709551616 Y).length+(wd 18446744073709551616 Y).length<(wd 18446744073709551616 X).length) (hl:(wd 18446744073709551616 X).length+(wd 18446744073709551616 Y).length<4194304) (hD:∀ D,(wd 18446744073709551616 D).length≤(wd 18446744073709551616 Y).length+(wd 18446744073709551616 Y).length→ic D Y):ic X Y:=by(
 intro vx vy w hx hy
 have hY:0<Y:=by
  rcases Nat.eq_zero_or_pos Y with h | h
  ·subst h;rw[zo] at h80;simp at h80
  ·exact h
 have hcmp:=ky vx vy X Y w hx hy (by omega) (by omega)
 have hc0:=zbl hle
 generalize zy X Y=r at *
 have HC:=af hcmp
 have LD:=af (fun (W:World) (h1:Sl .u64 W vx (wd 18446744073709551616 X)) (h3:Sl .u64 W vy (wd 18446744073709551616 Y))=>zlb vx vy X Y W h1 h3 hY (by omega) hD hl)
 have HX:=af hx
 have HY:=af hy
 obtain⟨a1,c1,rfl,-,-⟩:=hx
 obtain⟨a2,c2,rfl,-,-⟩:=hy
 clear hcmp hD
 generalize (wd 18446744073709551616 X).length=nx at *
 generalize (wd 18446744073709551616 Y).length=ny at *
 have hr:decide (r<0)=false:=by simp;omega
 go_enter func224,ntmps224
 go_wp2_with fail
 refine (ae HC).mono ?_
 rintro e w1 ⟨rfl,q,rfl⟩
 go_wp2_with fail
 refine (ae LD _ (by exact ae HX) (by exact ae HY)).mono ?_
 rintro e w2 ⟨v1,v2,rfl,h1,h3,h4,h5⟩
 have ALL:=af (And.intro h1 (And.intro h3 (And.intro (((But.refl [] _).drewN q).trans' h4) (h5.pre (w:=w) (Nat.le_refl _)))))
 clear h1 h3 h4 h5 LD HC
 go_wp2
 go_ret2
 exact⟨v1,v2,rfl,(ae ALL).1,(ae ALL).2.1,(ae ALL).2.2.1,(ae ALL).2.2.2⟩)
theorem zoe (X Y n:Nat) (hle:Y≤X) (h80:80≤(wd 18446744073709551616 Y).length) (hm:(wd 18446744073709551616 Y).length+80≤(wd 18446744073709551616 X).length) (hp:(wd 18446744073709551616 X).length≤(wd 18446744073709551616 Y).length+(wd 18446744073709551616 Y).length) (hn:n=((wd 18446744073709551616 X).length-(wd 18446744073709551616 Y).length)/2) (hl:(wd 18446744073709551616 X).length+(wd 18446744073709551616 Y).length+n<8388608) (hD1:ic (X / 18446744073709551616^n / 18446744073709551616^n) (Y / 18446744073709551616^n)) (hD2:ic (X / 18446744073709551616^n%Y) (Y / 18446744073709551616^n)):ic X Y:=by(
 intro vx vy w hx hy
 have hYn:0<Y / 18446744073709551616^n:=by
  have:=j4 n Y
  rcases Nat.eq_zero_or_pos (Y / 18446744073709551616^n) with h | h
  ·rw[h,zo,List.length_nil] at this;omega
  ·exact h
 have hcmp:=ky vx vy X Y w hx hy (by omega) (by omega)
 have hc0:=zbl hle
 generalize zy X Y=r at *
 have HC:=af hcmp
 have LD:=af (fun (W:World) (h1:Sl .u64 W vx (wd 18446744073709551616 X)) (h3:Sl .u64 W vy (wd 18446744073709551616 Y))=>zjo vx vy X Y n W h1 h3 hYn hD1 hD2 hl)
 have HX:=af hx
 have HY:=af hy
 obtain⟨a1,c1,rfl,-,-⟩:=hx
 obtain⟨a2,c2,rfl,-,-⟩:=hy
 clear hcmp hD1 hD2 hYn
 generalize (wd 18446744073709551616 X).length=nx at *
 generalize (wd 18446744073709551616 Y).length=ny at *
 have hr:decide (r<0)=false:=by simp;omega
 have e1:((nx:Int)-(ny:Int))/2=(n:Int):=by omega
 clear hn
 go_enter func224,ntmps224
 go_wp2_with fail
 refine (ae HC).mono ?_
 rintro e w1 ⟨rfl,q,rfl⟩
 go_wp2_with fail
 refine (ae LD _ (by exact ae HX) (by exact ae HY)).mono ?_
 rintro e w2 ⟨v1,v2,rfl,h1,h3,h4,h5⟩
 have ALL:=af (And.intro h1 (And.intro h3 (And.intro (((But.refl [] _).drewN q).trans' h4) (h5.pre (w:=w) (Nat.le_refl _)))))
 clear h1 h3 h4 h5 LD HC
 go_wp2
 go_ret2
 exact⟨v1,v2,rfl,(ae ALL).1,(ae ALL).2.1,(ae ALL).2.2.1,(ae ALL).2.2.2⟩)
theorem zue (m:Nat):∀ X Y,(wd 18446744073709551616 X).length≤m→2≤(wd 18446744073709551616 Y).length→m+(wd 18446744073709551616 Y).length<2097152→ic X Y:=by(
 induction m with
 | zero =>
  intro X Y hX h2 hl
  have h0:X=0:=(zq (B:=18446744073709551616) (by omega) X).1 (by omega)
  have hY:0<Y:=by
   rcases Nat.eq_zero_or_pos Y with h | h
   ·subst h;rw[zo] at h2;simp at h2
   ·exact h
  exact zkw X Y (by omega) (by omega)
 | succ m ih =>
  intro X Y hX h2 hl
  rcases Nat.lt_or_ge X Y with hlt | hge
  ·exact zkw X Y hlt (by omega)
  ·by_cases hs:(wd 18446744073709551616 X).length<(wd 18446744073709551616 Y).length+80∨(wd 18446744073709551616 Y).length<80
   ·intro vx vy w hx hy
    exact (zqv X Y h2 hge (by omega) hs vx vy w hx hy).mono fun e w' ⟨v1,v2,h1,h3,h4,h5,h6⟩=>⟨v1,v2,h1,h3,h4,h5,jh.zfe (h6 hge)⟩
   ·by_cases hp:(wd 18446744073709551616 Y).length+(wd 18446744073709551616 Y).length<(wd 18446744073709551616 X).length
    ·exact zqw X Y hge (by omega) hp (by omega) (fun D hD=>ih D Y (by omega) h2 (by omega))
    ·obtain⟨n,hn⟩:∃ n,n=((wd 18446744073709551616 X).length-(wd 18446744073709551616 Y).length)/2:=⟨_,rfl⟩
     have l1:=j4 n X
     have l2:=j4 n (X / 18446744073709551616^n)
     have l3:=j4 n Y
     have l4:(wd 18446744073709551616 (X / 18446744073709551616^n%Y)).length≤(wd 18446744073709551616 Y).length:=av (Nat.le_of_lt (Nat.mod_lt _ (by
      rcases Nat.eq_zero_or_pos Y with h | h
      ·subst h;rw[zo] at h2;simp at h2
      ·exact h)))
     exact zoe X Y n hge (by omega) (by omega) (by omega) hn (by omega) (ih _ _ (by omega) (by omega) (by omega)) (ih _ _ (by omega) (by omega) (by omega)))
end Go.Proofs.YtagmkkiagjmimaaGreatDoor
