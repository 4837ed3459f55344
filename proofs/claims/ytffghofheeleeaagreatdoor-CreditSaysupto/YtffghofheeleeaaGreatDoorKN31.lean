/- A whole number, so many words higher, wi -/
import Derived.Deep.LoopGhost
import Derived.Test.YtffghofheeleeaaGreatDoorKN15
namespace Go.Proofs.YtffghofheeleeaaGreatDoor
open Go.Proofs.Tryz
open Go.RowKit
set_option maxHeartbeats 8000000
set_option maxRecDepth 100000
theorem zvf (X R n:Nat) (hX:0<X) (hR:R < 18446744073709551616^n):(wd 18446744073709551616 (X * 18446744073709551616^n+R)).length=(wd 18446744073709551616 X).length+n:=by
 have hp:0 < 18446744073709551616^n:=Nat.pow_pos (by omega)
 have h1:(X * 18446744073709551616^n+R) / 18446744073709551616^n=X:=by
  rw[Nat.mul_comm,Nat.mul_add_div hp,Nat.div_eq_of_lt hR,Nat.add_zero]
 have h2:=dm n (X * 18446744073709551616^n+R)
 rw[h1] at h2
 have h3:(wd 18446744073709551616 X).length≠0:=fun e=>by rw[zt (by omega)] at e;omega
 omega
theorem qca (X R n:Nat) (hX:0<X) (hR:R < 18446744073709551616^n) (zs:List Nat) (hz:∀ x ∈ zs,x=0) (hl:(wd 18446744073709551616 R).length+zs.length=n):wd 18446744073709551616 R++zs++wd 18446744073709551616 X=wd 18446744073709551616 (X * 18446744073709551616^n+R):=by
 have hv0:vl 18446744073709551616 zs=0:=zeo 18446744073709551616 zs (fun j hj=>by
  have:=hz zs[j] (List.getElem_mem hj)
  rw[List.getElem?_eq_getElem hj];exact this)
 refine qjh (B:=18446744073709551616) (by omega) _ _ ?_ ?_ (zx (by omega) _) ?_
 ·rw[zvf X R n hX hR,List.length_append,List.length_append,hl,Nat.add_comm]
 ·intro x hx
  rw[List.mem_append,List.mem_append] at hx
  rcases hx with (hx | hx) | hx
  ·exact zx (by omega) _ x hx
  ·rw[hz x hx];omega
  ·exact zx (by omega) _ x hx
 ·rw[z8,z8,hv0,jg (by omega),jg (by omega),jg (by omega),List.length_append,hl,Nat.mul_zero,Nat.add_zero,Nat.mul_comm,Nat.add_comm]
theorem qep (nx n:Nat) (h0:0<nx) (h:nx+n<2147483648):(0:Int)≤(n:Int)∧(n:Int)<((nx+n:Nat):Int)∧nx+n-n=nx∧(n:Int)<(nx:Int)+(n:Int)∧(n:Int)≤(nx:Int)+(n:Int)∧((nx:Int)==0)=false∧IntKind.i64.wrap ((nx:Int)+(n:Int))=(nx:Int)+(n:Int)∧wrap64 ((nx:Int)+(n:Int))=(nx:Int)+(n:Int):=by
 refine⟨by omega,by omega,by omega,by omega,by omega,by simp;omega,by rw[IntKind.wrap_i64];omega,by unfold wrap64;omega⟩
theorem zea (vx vr:Value) (X R n:Nat) (w:World) (hx:Sl .u64 w vx (wd 18446744073709551616 X)) (hr:Sl .u64 w vr (wd 18446744073709551616 R)) (hR:R < 18446744073709551616^n) (hl:(wd 18446744073709551616 X).length+n<134217728) :
  Calls prog 208 #[vx,.int .i64 (n:Int),vr] w fun e w'=>∃ v',e=.returned v'∧Sl .u64 w' v' (wd 18446744073709551616 (X * 18446744073709551616^n+R))∧But [] w w'∧((X=0∧v'=vr)∨Own w.heap.size w' v'):=by
 rcases Nat.eq_zero_or_pos X with h0 | h0
 ·subst h0
  rw[zq] at hx
  have HR:=af hr
  obtain⟨a1,c1,rfl,-,-⟩:=hx
  obtain⟨a2,c2,rfl,-,-⟩:=hr
  go_enter func208,ntmps208
  go_wp2
  go_ret
  exact⟨_,rfl,by rw[Nat.zero_mul,Nat.zero_add];exact ae HR,But.refl _ _,.inl (by simp)⟩
 ·have hlr:(wd 18446744073709551616 R).length≤n:=aj (by omega) R n hR
  have hxp:0<(wd 18446744073709551616 X).length:=by rw[Nat.pos_iff_ne_zero];intro e;rw[zt (by omega)] at e;omega
  obtain⟨nx,hnx⟩:∃ nx,nx=(wd 18446744073709551616 X).length:=⟨_,rfl⟩
  have SM:=Seg.made w (nx+n) 24
  have bM:=ni w (nx+n) 24
  obtain⟨w2,hcp,HC⟩:=yh (P:=prog) (w.alloc (.cells (madeCells #[.int .u64 0] (nx+n)) 24)) 91 92 24 underlying91 zao w.heap.size 0 (nx+n) (nx+n) vr (List.replicate (nx+n) 0) (wd 18446744073709551616 R) SM (by simp) (hr.ah bM) (by simp;omega)
  obtain⟨r1,hr1⟩:∃ r1,r1=wd 18446744073709551616 R++(List.replicate (nx+n) 0).drop (wd 18446744073709551616 R).length:=⟨_,rfl⟩
  have hr1l:r1.length=nx+n:=by rw[hr1];simp;omega
  rw[← hr1] at HC
  have b2:But [] w w2:=bM.trans (ae HC).2.but (fun x hx=>by simp at hx;subst hx;exact .inr (Nat.le_refl _))
  have S2:=(ae HC).1.sub n nx (by omega)
  have hsl:((r1.drop n).take nx).length=nx:=by rw[List.length_take,List.length_drop,hr1l];omega
  obtain⟨w3,hcp2,HC2⟩:=yh (P:=prog) w2 91 92 24 underlying91 zao w.heap.size (0+n) nx nx vx ((r1.drop n).take nx) (wd 18446744073709551616 X) S2 hsl.symm (hx.ah b2) (by rw[hsl,hnx];exact Nat.le_refl _)
  have hd0:((r1.drop n).take nx).drop (wd 18446744073709551616 X).length=[]:=List.drop_eq_nil_of_le (by rw[hsl,hnx];exact Nat.le_refl _)
  rw[hd0,List.append_nil] at HC2
  have SW:=(ae HC).1.whole (ae HC2).2 (ae HC2).1 rfl (by rw[hr1l,← hnx];omega)
  have b3:But [] w w3:=b2.trans (ae HC2).2.but (fun x hx=>by simp at hx;subst hx;exact .inr (Nat.le_refl _))
  have et:r1.take n=wd 18446744073709551616 R++((List.replicate (nx+n) 0).drop (wd 18446744073709551616 R).length).take (n-(wd 18446744073709551616 R).length):=by
   rw[hr1,List.take_append,List.take_of_length_le hlr]
  have ed:r1.drop (n+(wd 18446744073709551616 X).length)=[]:=List.drop_eq_nil_of_le (by rw[hr1l,hnx];omega)
  rw[Nat.zero_add,ed,List.append_nil,et,qca X R n h0 hR _ (fun x hx=>by
   have:=List.mem_of_mem_drop (List.mem_of_mem_take hx)
   exact (List.mem_replicate.1 this).2) (by simp;omega)] at SW
  have hlen:=zvf X R n h0 hR
  have SL:=SW.sl (nx+n) (by rw[hlen,hnx];exact Nat.le_refl _)
  rw[hlen,← hnx] at SL
  have OW:Own w.heap.size w3 (.slice (some ⟨w.heap.size,0,none⟩) (nx+n) (nx+n)):=fun b off m c e=>by
   simp only[Value.slice.injEq,Option.some.injEq,Addr.mk.injEq] at e
   obtain⟨⟨rfl,rfl,-⟩,rfl,-⟩:=e
   exact⟨Nat.le_refl _,fun i hi=>(SW i (by rw[hlen,← hnx];exact hi)).2⟩
  have FIN:=af (And.intro SL (And.intro b3 OW))
  have hlt:nx+n<2147483648:=by rw[hnx];exact Nat.lt_trans hl (by decide)
  have hmk:∀ wx,(Instr.makeSlice 91 (.int .i64 ((nx:Int)+(n:Int))) (.int .i64 ((nx:Int)+(n:Int)))).run prog wx=.ok (.slice (some ⟨wx.heap.size,0,none⟩) (nx+n) (nx+n)) (wx.alloc (.cells (madeCells #[.int .u64 0] (nx+n)) 24)):=fun wx=>by
   have h:=om wx (nx+n) hlt
   rw[Int.natCast_add] at h
   exact h
  have hnxp:0<nx:=by rw[hnx];exact hxp
  obtain⟨i1,i2,i3,i4,i5,hn0,ew,ew2⟩:=qep nx n hnxp hlt
  obtain⟨a1,c1,rfl,-,-⟩:=hx
  obtain⟨a2,c2,rfl,-,-⟩:=hr
  rw[← hnx] at hcp2 ⊢
  generalize (wd 18446744073709551616 R).length=nr at *
  rw[Nat.zero_add] at hcp2
  clear SM bM HC HC2 S2 hsl hd0 SW et ed SL OW b2 b3 hr1 hr1l hlen hxp hnx hnxp
  go_enter func208,ntmps208
  go_wp2
  go_ret
  exact⟨_,rfl,(ae FIN).1,(ae FIN).2.1,.inr (ae FIN).2.2⟩
def xw (w:World) (vx:Value) (w':World) (v:Value):Prop:=∀ b off n c,v=.slice (some ⟨b,off,none⟩) n c →
 (w.heap.size≤b∧∀ i,i<n→w'.frozen? ⟨b,off+i,none⟩=false)∨∃ off0 n0 c0,vx=.slice (some ⟨b,off0,none⟩) n0 c0∧off0≤off∧off+n≤off0+n0
theorem xw.self (w:World) (v:Value) (w':World):xw w v w' v:=fun _ off n c e=>.inr ⟨off,n,c,e,Nat.le_refl _,Nat.le_refl _⟩
theorem xw.zis {w w':World} {vx v:Value} (h:Own w.heap.size w' v):xw w vx w' v:=fun b off n c e=>.inl (h b off n c e)
theorem xw.nil (w:World) (vx:Value) (w':World) (m c:Nat):xw w vx w' (.slice none m c):=fun _ _ _ _ e=>by simp at e
theorem Sl.zwr {k:IntKind} {w:World} {v:Value} {xs:List Nat} (h:Sl k w v xs) {a:Option Addr} {n c:Nat} (e:v=.slice a n c):n=xs.length:=by
 obtain⟨a1,c1,e1,-⟩:=h
 rw[e] at e1
 exact (Value.slice.inj e1).2.1
theorem xw.but {w w1 w2:World} {vx v1:Value} {xs:List Nat} (h:xw w vx w1 v1) (hs:Sl .u64 w1 v1 xs) (hb:But [] w1 w2):xw w vx w2 v1:=fun b off n c e=>by
 rcases h b off n c e with ⟨h1,h2⟩ | h1
 ·refine .inl ⟨h1,fun i hi=>?_⟩
  have hn:=hs.zwr e
  have hl:=hs.lt (by omega) b off n c e
  rw[hb.frozen (p:=⟨b,off+i,none⟩) hl (by simp)]
  exact h2 i hi
 ·exact .inr h1
theorem xw.pre {w W w':World} {vx v:Value} (h:xw W vx w' v) (hs:w.heap.size≤W.heap.size):xw w vx w' v:=fun b off n c e=>by
 rcases h b off n c e with ⟨h1,h2⟩ | h1
 ·exact .inl ⟨Nat.le_trans hs h1,h2⟩
 ·exact .inr h1
theorem xw.trans {w w1 w2:World} {vx v1 v2:Value} {xs:List Nat} (h:xw w vx w1 v1) (hs:Sl .u64 w1 v1 xs) (hb:But [] w1 w2) (hw:w.heap.size≤w1.heap.size) (k:xw w1 v1 w2 v2):xw w vx w2 v2:=fun b off n c e=>by
 rcases k b off n c e with ⟨h1,h2⟩|⟨o0,n0,c0,e0,h3,h4⟩
 ·exact .inl ⟨Nat.le_trans hw h1,h2⟩
 ·rcases (h.but hs hb) b o0 n0 c0 e0 with ⟨h5,h6⟩|⟨o1,n1,c1,e1,h7,h8⟩
  ·refine .inl ⟨h5,fun i hi=>?_⟩
   have:=h6 (off-o0+i) (by omega)
   rwa [show o0+(off-o0+i)=off+i from by omega] at this
  ·exact .inr ⟨o1,n1,c1,e1,by omega,by omega⟩
theorem xw.own {lo:Nat} {w w':World} {vx v:Value} {xs:List Nat} (h:xw w vx w' v) (ho:Own lo w vx) (hlo:lo≤w.heap.size) (hs:Sl .u64 w vx xs) (hb:But [] w w'):Own lo w' v:=fun b off n c e=>by
 rcases h b off n c e with ⟨h1,h2⟩|⟨o0,n0,c0,e0,h3,h4⟩
 ·exact⟨Nat.le_trans hlo h1,h2⟩
 ·refine⟨(ho _ _ _ _ e0).1,fun i hi=>?_⟩
  have hn:=hs.zwr e0
  have hl:=hs.lt (by omega) b o0 n0 c0 e0
  rw[hb.frozen (p:=⟨b,off+i,none⟩) hl (by simp)]
  have:=(ho _ _ _ _ e0).2 (off-o0+i) (by omega)
  rwa [show o0+(off-o0+i)=off+i from by omega] at this
theorem znj (v:Value) (X n:Nat) (w:World) (hv:Sl .u64 w v (wd 18446744073709551616 X)) (hl:(wd 18446744073709551616 X).length<2147483648) (hn:n<2147483648) :
  Calls prog 189 #[v,.int .i64 (n:Int)] w fun e w'=>∃ v',e=.returned v'∧Sl .u64 w v' (wd 18446744073709551616 (X % 18446744073709551616^n))∧w'=w∧xw w v w v':=by
 by_cases hle:(wd 18446744073709551616 X).length≤n
 ·have e:X % 18446744073709551616^n=X:=Nat.mod_eq_of_lt (am (by omega) X n hle)
  rw[e]
  have HV:=af hv
  obtain⟨a,c,rfl,-,-⟩:=hv
  clear e
  generalize (wd 18446744073709551616 X).length=l at *
  go_enter func189,ntmps189
  go_wp2
  go_ret
  exact⟨_,rfl,ae HV,rfl,xw.self _ _ _⟩
 ·rcases hv.open with ⟨e,-⟩|⟨h0,b,off,c,rfl,hc,-,-⟩
  ·rw[e] at hle;simp at hle
  have ht:=qp (.slice (some ⟨b,off,none⟩) n c) ((wd 18446744073709551616 X).take n) w (hv.take n c (by omega) (by omega)) (fun x hx=>zx (by omega) X x (List.mem_of_mem_take hx)) (by rw[List.length_take];omega)
  rw[qer] at ht
  have HT:=af ht
  have LM:=af (zpw n X)
  clear ht hv
  generalize (wd 18446744073709551616 X).length=l at *
  have hnl:n<l:=by omega
  have hnc:n≤c:=by omega
  go_enter func189,ntmps189
  go_wp2_with fail
  refine (ae HT).mono ?_
  rintro e w1 ⟨v',rfl,h1,hw,hsb⟩
  obtain rfl:=hw.symm
  clear hw
  have HH:Hid (xw w (.slice (some ⟨b,off,none⟩) l c) w v'):=fun b1 off1 n1 c1 e1=>by
   have hn1:=h1.zwr e1
   have hlm:=ae LM
   obtain⟨n',c',e'⟩:=hsb b1 off1 n1 c1 e1
   simp only[Value.slice.injEq,Option.some.injEq,Addr.mk.injEq] at e'
   obtain⟨⟨rfl,rfl,-⟩,-,-⟩:=e'
   exact .inr ⟨_,_,_,rfl,Nat.le_refl _,by omega⟩
  have H1:=af h1
  clear h1 hsb
  go_wp2
  go_ret
  exact⟨v',rfl,ae H1,rfl,ae HH⟩
theorem qdl (v:Value) (X n:Nat) (w:World) (hv:Sl .u64 w v (wd 18446744073709551616 X)) (hn:n<2147483648) :
  Calls prog 190 #[v,.int .i64 (n:Int)] w fun e w'=>∃ v',e=.returned v'∧Sl .u64 w v' (wd 18446744073709551616 (X / 18446744073709551616^n))∧w'=w∧xw w v w v':=by
 by_cases hle:(wd 18446744073709551616 X).length≤n
 ·have e:X / 18446744073709551616^n=0:=Nat.div_eq_of_lt (am (by omega) X n hle)
  rw[e,zq]
  obtain⟨a,c,rfl,-,-⟩:=hv
  clear e
  generalize (wd 18446744073709551616 X).length=l at *
  go_enter func190,ntmps190
  go_wp2
  go_ret
  exact⟨_,rfl,Sl.nil _ _,rfl,xw.nil _ _ _ _ _⟩
 ·rcases hv.open with ⟨e,-⟩|⟨h0,b,off,c,rfl,hc,-,-⟩
  ·rw[e] at hle;simp at hle
  have HR:=af (hv.drop n ((wd 18446744073709551616 X).length-n) (c-n) rfl (by omega))
  rw[zvg] at HR
  clear hv
  generalize (wd 18446744073709551616 X).length=l at *
  have hnl:n<l:=by omega
  have hnc:n<c:=by omega
  go_enter func190,ntmps190
  go_wp2
  go_ret
  refine⟨_,rfl,ae HR,rfl,fun b1 off1 n1 c1 e1=>?_⟩
  simp only at e1
  obtain⟨⟨rfl,rfl,-⟩,rfl,-⟩:=e1
  exact .inr ⟨_,_,_,rfl,by omega,by omega⟩
theorem qdj (va vb:Value) (xs ys:List Nat) (w:World) (ha:Sl .u64 w va xs) (hb:Sl .u64 w vb ys) (mx:∀ x ∈ xs,x < 18446744073709551616) (my:∀ x ∈ ys,x < 18446744073709551616) (hle:ys.length≤xs.length) (h0:0<ys.length) (hl:xs.length<1073741824) (hv:vl 18446744073709551616 ys≤vl 18446744073709551616 xs) :
  Calls prog 164 #[va,vb] w fun e w'=>∃ v',e=.returned v'∧Sl .u64 w' v' (wd 18446744073709551616 (vl 18446744073709551616 xs-vl 18446744073709551616 ys))∧But [] w w'∧Own w.heap.size w' v':=by
 obtain⟨b1,o1,c1,rfl,hc1⟩:∃ b o c,va=.slice (some ⟨b,o,none⟩) xs.length c∧xs.length≤c:=by
  rcases ha.open with ⟨rfl,-⟩|⟨-,b,o,c,e,h,-⟩
  ·simp only[List.length_nil] at hle;omega
  ·exact⟨b,o,c,e,h⟩
 obtain⟨b2,o2,c2,rfl,hc2⟩:∃ b o c,vb=.slice (some ⟨b,o,none⟩) ys.length c∧ys.length≤c:=by
  rcases hb.open with ⟨rfl,-⟩|⟨-,b,o,c,e,h,-⟩
  ·simp at h0
  ·exact⟨b,o,c,e,h⟩
 have n0:((ys.length:Int)==0)=false:=beq_eq_false_iff_ne.2 (by omega)
 have hmk:=fun wx=>om wx xs.length (by omega)
 have hof:Off w.heap.size (.slice (some ⟨b2,o2,none⟩) ys.length c2):=zbe hb h0 _ (Nat.le_refl _)
 obtain⟨w2,hcp,HC⟩:=yh (P:=prog) (w.alloc (.cells (madeCells #[.int .u64 0] xs.length) 24)) 91 92 24 underlying91 zao w.heap.size 0 xs.length xs.length _ (List.replicate xs.length 0) xs (Seg.made _ _ _) (by simp) (ha.ah (ni _ _ _)) (by simp)
 have e1:xs++(List.replicate xs.length 0).drop xs.length=xs:=by simp
 rw[e1] at HC
 have hB2:Hid (But [] w w2):=((ni w xs.length 24).trans (ae HC).2.but (fun x hx=>by simp at hx;subst hx;exact .inr (Nat.le_refl _)))
 have hsub:=zoa w.heap.size 0 xs.length xs ys (.slice (some ⟨b2,o2,none⟩) ys.length c2) w2 (ae HC).1 (by omega) (hb.ah (ae hB2)) (fun _=>hof) mx my (by omega) (by omega)
 have HSUB:=af hsub
 have HV:=af hv
 clear ha hb mx my hof hsub HC e1 hv
 go_enter func164,ntmps164
 go_wp2_with fail
 refine (ae HSUB).mono ?_
 rintro e w3 ⟨c,rs',rfl,hc,hlr,hmr,hv,hsg,hpt⟩
 have hV:=zpv xs ys rs' c hmr (ae HV) hlr hv
 have HV:=af hV
 clear hV hv
 have hB3:Hid (But [] w w3):=(ae hB2).trans hpt.but (fun x hx=>by simp at hx;subst hx;exact .inr (Nat.le_refl _))
 have hsl:=hsg.sl xs.length (by omega)
 rw[hlr] at hsl
 have HS:=af hsl
 have SG:=af hsg
 have LW:Hid ((wd 18446744073709551616 (vl 18446744073709551616 rs')).length≤rs'.length):=aj (by omega) _ _ (zak (by omega) rs' hmr)
 clear hsl hsg hpt HSUB
 go_wp2_with fail
 refine (qp _ rs' _ (ae HS) hmr (by omega)).mono ?_
 rintro e w4 ⟨v',rfl,hs4,hw4,hsb⟩
 obtain rfl:=hw4.symm
 clear hw4
 have OW:=af (zwe (ae SG) hsb hs4 (ae LW) (Nat.le_refl _))
 have H4:=af hs4
 clear hs4 hsb
 go_wp2
 go_ret
 exact⟨v',rfl,by rw[← ae HV];exact ae H4,ae hB3,ae OW⟩
theorem qig (va vb:Value) (m n:Nat) (w:World) (ha:Sl .u64 w va (wd 18446744073709551616 m)) (hb:Sl .u64 w vb (wd 18446744073709551616 n)) (hla:(wd 18446744073709551616 m).length<1073741824) (hmn:n≤m) :
  Calls prog 164 #[va,vb] w fun e w'=>∃ v',e=.returned v'∧Sl .u64 w' v' (wd 18446744073709551616 (m-n))∧But [] w w'∧((n=0∧v'=va)∨Own w.heap.size w' v'):=by
 rcases Nat.eq_zero_or_pos n with h0 | h0
 ·subst h0
  rw[zq] at hb
  have HR:=af ha
  obtain⟨a1,c1,rfl,-,-⟩:=ha
  obtain⟨a2,c2,rfl,-,-⟩:=hb
  go_enter func164,ntmps164
  go_wp2
  go_ret
  exact⟨_,rfl,ae HR,But.refl _ _,.inl (by simp)⟩
 ·have em:=jg (B:=18446744073709551616) (by omega) m
  have en:=jg (B:=18446744073709551616) (by omega) n
  have hl:(wd 18446744073709551616 n).length≤(wd 18446744073709551616 m).length:=aj (by omega) n _ (Nat.lt_of_le_of_lt hmn (am (by omega) m _ (Nat.le_refl _)))
  have hp:0<(wd 18446744073709551616 n).length:=by
   rw[Nat.pos_iff_ne_zero];intro h;rw[zt (by omega)] at h;omega
  have:=qdj va vb _ _ w ha hb (zx (by omega) m) (zx (by omega) n) hl hp hla (by rw[em,en];exact hmn)
  rw[em,en] at this
  exact this.mono fun e w' ⟨v',h1,h2,h3,h4⟩=>⟨v',h1,h2,h3,.inr h4⟩
theorem zqv {X Y q r:Nat} (h:X=q*Y+r) (hr:r<Y):X/Y=q∧X%Y=r:=by
 subst h
 have hY:0<Y:=by omega
 constructor
 ·rw[Nat.mul_comm,Nat.mul_add_div hY,Nat.div_eq_of_lt hr,Nat.add_zero]
 ·rw[Nat.mul_comm,Nat.mul_add_mod,Nat.mod_eq_of_lt hr]
structure zfj (X Y T q m:Nat):Prop where
 eq:X+T=q*Y+m
 lt:m<T+Y
theorem zfj.start (X Y P:Nat) (hP:0<P) (hY:0<Y/P):zfj X Y (X/P/(Y/P)*(Y%P)) (X/P/(Y/P)) (X/P%(Y/P)*P+X%P):=by
 obtain⟨YH,hYH⟩:∃ YH,YH=Y/P:=⟨_,rfl⟩
 obtain⟨YL,hYL⟩:∃ YL,YL=Y%P:=⟨_,rfl⟩
 obtain⟨XH,hXH⟩:∃ XH,XH=X/P:=⟨_,rfl⟩
 obtain⟨XL,hXL⟩:∃ XL,XL=X%P:=⟨_,rfl⟩
 have e1:Y=P*YH+YL:=by rw[hYH,hYL];exact (Nat.div_add_mod Y P).symm
 have e2:X=P*XH+XL:=by rw[hXH,hXL];exact (Nat.div_add_mod X P).symm
 have l1:XL<P:=by rw[hXL];exact Nat.mod_lt _ hP
 rw[← hYH,← hYL,← hXH,← hXL]
 rw[← hYH] at hY
 have e3:=Nat.div_add_mod XH YH
 have l2:=Nat.mod_lt XH hY
 generalize XH/YH=q at *
 generalize XH%YH=r at *
 constructor
 ·rw[e2,e1,← e3];grind
 ·have h1:(r+1)*P≤YH*P:=Nat.mul_le_mul_right _ l2
  rw[e1]
  have h2:(r+1)*P=r*P+P:=Nat.succ_mul _ _
  have h3:YH*P=P*YH:=Nat.mul_comm _ _
  omega
theorem zfj.pos {X Y T q m:Nat} (h:zfj X Y T q m) (hm:m<T):0<q:=by
 rcases Nat.eq_zero_or_pos q with h0 | h0
 ·have:=h.eq
  rw[h0,Nat.zero_mul] at this
  omega
 ·exact h0
theorem zfj.next {X Y T q m:Nat} (h:zfj X Y T q m) (hm:m<T):zfj X Y T (q-1) (m+Y):=by
 have hq:=h.pos hm
 obtain⟨p,rfl⟩:∃ p,q=p+1:=⟨q-1,by omega⟩
 have he:=h.eq
 rw[Nat.succ_mul] at he
 exact⟨by rw[Nat.add_sub_cancel];omega,by omega⟩
theorem zfj.fin {X Y T q m:Nat} (h:zfj X Y T q m) (hm:T≤m):X/Y=q∧X%Y=m-T:=by
 have he:=h.eq
 have hl:=h.lt
 exact zqv (by omega) (by omega)
theorem halves (X Y P h r l s:Nat) (h1:X/P=h*Y+r) (h2:r*P+X%P=l*Y+s) (hs:s<Y):X/Y=h*P+l∧X%Y=s:=by
 refine zqv ?_ hs
 have e:=Nat.div_add_mod X P
 rw[h1] at e
 grind
def si (X Y:Nat):Prop:=∀ (vx vy:Value) (w:World),Sl .u64 w vx (wd 18446744073709551616 X)→Sl .u64 w vy (wd 18446744073709551616 Y) →
 Calls prog 175 #[vx,vy] w fun e w'=>∃ v1 v2,e=.returned (.tuple #[v1,v2])∧Sl .u64 w' v1 (wd 18446744073709551616 (X/Y))∧Sl .u64 w' v2 (wd 18446744073709551616 (X%Y))∧But [] w w'∧xw w vx w' v2
structure zfw (w wr:World) (X Y T:Nat) (vx vy vt:Value) (vq vm:Value) (k Q M:Nat):Prop where
 q:Sl .u64 wr vq (wd 18446744073709551616 Q)
 m:Sl .u64 wr vm (wd 18446744073709551616 M)
 y:Sl .u64 wr vy (wd 18446744073709551616 Y)
 t:Sl .u64 wr vt (wd 18446744073709551616 T)
 inv:zfj X Y T Q M
 k:T-M=k
 but:But [] w wr
 heir:T=0→xw w vx wr vm
theorem zfw.len {w wr:World} {X Y T:Nat} {vx vy vt vq vm:Value} {k Q M n:Nat} (h:zfw w wr X Y T vx vy vt vq vm k Q M) (hT:T < 18446744073709551616^n) (hY:Y < 18446744073709551616^n):(wd 18446744073709551616 M).length≤n+1 :=
 Nat.le_trans (aw (Nat.le_of_lt h.inv.lt)) (zen T Y n hT hY)
theorem zfw.jam {w wr:World} {X Y T:Nat} {vx vy vt vq vm:Value} {k Q M n:Nat} (h:zfw w wr X Y T vx vy vt vq vm k Q M) (hY0:0<Y) (hT:T < 18446744073709551616^n) (hX:X < 18446744073709551616^n):(wd 18446744073709551616 Q).length≤n+1:=by
 have h3:Q≤X+T:=by
  rw[h.inv.eq]
  exact Nat.le_trans (Nat.le_mul_of_pos_right Q hY0) (Nat.le_add_right _ _)
 exact Nat.le_trans (aw h3) (zen X T n hX hT)
theorem zgq (vx vy:Value) (X Y n:Nat) (w:World) (hx:Sl .u64 w vx (wd 18446744073709551616 X)) (hy:Sl .u64 w vy (wd 18446744073709551616 Y)) (hY:0<Y / 18446744073709551616^n) (hD:si (X / 18446744073709551616^n) (Y / 18446744073709551616^n)) (hl:(wd 18446744073709551616 X).length+(wd 18446744073709551616 Y).length+n<33554432) :
  Calls prog 209 #[vx,vy,.int .i64 (n:Int)] w fun e w'=>∃ v1 v2,e=.returned (.tuple #[v1,v2])∧Sl .u64 w' v1 (wd 18446744073709551616 (X/Y))∧Sl .u64 w' v2 (wd 18446744073709551616 (X%Y))∧But [] w w'∧xw w vx w' v2:=by
 have hP:0 < 18446744073709551616^n:=Nat.pow_pos (by omega)
 have hY0:0<Y:=by
  rcases Nat.eq_zero_or_pos Y with h | h
  ·rw[h,Nat.zero_div] at hY;omega
  ·exact h
 have ST:=zfj.start X Y (18446744073709551616^n) hP hY
 obtain⟨q0,hq0⟩:∃ q0,q0=X / 18446744073709551616^n/(Y / 18446744073709551616^n):=⟨_,rfl⟩
 obtain⟨s0,hs0⟩:∃ s0,s0=X / 18446744073709551616^n%(Y / 18446744073709551616^n):=⟨_,rfl⟩
 obtain⟨T,hT⟩:∃ T,T=q0*(Y % 18446744073709551616^n):=⟨_,rfl⟩
 rw[← hq0,← hs0,← hT] at ST
 have HX1:=af (zbg vx X n w hx (by omega) (by omega))
 have HY1:=af (zbg vy Y n w hy (by omega) (by omega))
 have ql:(wd 18446744073709551616 q0).length≤(wd 18446744073709551616 X).length:=aw (by rw[hq0];exact Nat.le_trans (Nat.div_le_self _ _) (Nat.div_le_self _ _))
 have yl:(wd 18446744073709551616 (Y % 18446744073709551616^n)).length≤(wd 18446744073709551616 Y).length:=zxy n Y
 have sl:(wd 18446744073709551616 s0).length≤(wd 18446744073709551616 Y).length:=aw (by rw[hs0];exact Nat.le_trans (Nat.le_of_lt (Nat.mod_lt _ hY)) (Nat.div_le_self _ _))
 have tl:(wd 18446744073709551616 T).length≤(wd 18446744073709551616 X).length+(wd 18446744073709551616 Y).length:=by
  have:=jq q0 (Y % 18446744073709551616^n)
  rw[hT];omega
 have DV:Hid (∀ W v1 v2,Sl .u64 W v1 (wd 18446744073709551616 (X / 18446744073709551616^n))→Sl .u64 W v2 (wd 18446744073709551616 (Y / 18446744073709551616^n))→Calls prog 175 #[v1,v2] W fun e w'=>∃ v3 v4,e=.returned (.tuple #[v3,v4])∧Sl .u64 w' v3 (wd 18446744073709551616 q0)∧Sl .u64 w' v4 (wd 18446744073709551616 s0)∧But [] W w'):=by
  rw[hq0,hs0];exact fun W v1 v2 h1 h2=>(hD v1 v2 W h1 h2).mono fun e w' ⟨a,b,h3,h4,h5,h6,_⟩=>⟨a,b,h3,h4,h5,h6⟩
 have LX:=af (fun W (h:Sl .u64 W vx (wd 18446744073709551616 X))=>znj vx X n W h (by omega) (by omega))
 have LY:=af (fun W (h:Sl .u64 W vy (wd 18446744073709551616 Y))=>zgz vy Y n W h (by omega) (by omega))
 have AB:=af (fun W v1 v2 (h1:Sl .u64 W v1 (wd 18446744073709551616 s0)) (h2:Sl .u64 W v2 (wd 18446744073709551616 (X % 18446744073709551616^n)))=>zea v1 v2 s0 (X % 18446744073709551616^n) n W h1 h2 (Nat.mod_lt _ hP) (by omega))
 have MU:Hid (∀ W v1 v2,Sl .u64 W v1 (wd 18446744073709551616 q0)→Sl .u64 W v2 (wd 18446744073709551616 (Y % 18446744073709551616^n))→Calls prog 124 #[v1,v2] W fun e w'=>∃ v',e=.returned v'∧Sl .u64 w' v' (wd 18446744073709551616 T)∧But [] W w'):=fun W v1 v2 h1 h2=>by
  rw[hT]
  exact (ve v1 v2 q0 _ W h1 h2 (by omega)).mono fun e w' ⟨v',he,hv,hb,_⟩=>⟨v',he,hv,hb⟩
 have HX:=af hx
 have HY:=af hy
 have HS:=af ST
 have pw:∀ Z l,(wd 18446744073709551616 Z).length≤l→l≤(wd 18446744073709551616 X).length+(wd 18446744073709551616 Y).length→Z < 18446744073709551616^((wd 18446744073709551616 X).length+(wd 18446744073709551616 Y).length):=fun Z l h1 h2=>Nat.lt_of_lt_of_le (am (by omega) Z l h1) (Nat.pow_le_pow_right (by omega) h2)
 have HL:=af (And.intro (pw T _ tl (Nat.le_refl _)) (And.intro (pw X _ (Nat.le_refl _) (by omega)) (And.intro (pw Y _ (Nat.le_refl _) (by omega)) (And.intro hl hY0))))
 obtain⟨M0,hM0⟩:∃ M0,M0=s0 * 18446744073709551616^n+X % 18446744073709551616^n:=⟨_,rfl⟩
 rw[← hM0] at AB HS
 obtain⟨a1,c1,rfl,-,-⟩:=hx
 obtain⟨a2,c2,rfl,-,-⟩:=hy
 clear hP hY hD ST hq0 hs0 hT ql yl sl tl hM0 hl hY0 pw
 generalize (wd 18446744073709551616 X).length=nx at *
 generalize (wd 18446744073709551616 Y).length=ny at *
 go_enter func209,ntmps209
 go_wp2_with fail
 refine (ae HX1).mono ?_
 rintro e1 w1 ⟨v1,rfl,hv1,hw⟩
 obtain rfl:=hw.symm
 clear hw
 have HV1:=af hv1
 clear hv1
 go_wp2_with fail
 refine (ae HY1).mono ?_
 rintro e2 w2 ⟨v2,rfl,hv2,hw⟩
 obtain rfl:=hw.symm
 clear hw
 have HV2:=af hv2
 clear hv2
 go_wp2_with fail
 refine (ae DV _ _ _ (ae HV1) (ae HV2)).mono ?_
 rintro e3 w3 ⟨v3,v4,rfl,hv3,hv4,hb3⟩
 have B3:=af hb3
 have HV3:=af hv3
 have HV4:=af hv4
 clear hb3 hv3 hv4 DV HX1 HY1
 go_wp2_with fail
 refine (ae LX _ ((ae HX).ah (ae B3))).mono ?_
 rintro e4 w4 ⟨v5,rfl,hv5,hw,he5⟩
 obtain rfl:=hw.symm
 clear hw
 have HV5:=af hv5
 have HE5:Hid (xw w (.slice a1 nx c1) _ v5):=he5.pre (ae B3).size
 clear hv5 he5 LX
 go_wp2_with fail
 refine (ae AB _ _ _ (ae HV4) (ae HV5)).mono ?_
 rintro e5 w5 ⟨v6,rfl,hv6,hb5,hp5⟩
 have HV6:=af hv6
 have HE6:Hid (xw w (.slice a1 nx c1) w5 v6):=by
  rcases hp5 with ⟨-,rfl⟩ | ho
  ·exact (ae HE5).but (ae HV5) hb5
  ·exact (xw.zis ho).pre (ae B3).size
 have HV3':=af ((ae HV3).ah hb5)
 have B5:Hid (But [] _ w5):=(ae B3).trans' hb5
 have HY5:=af ((ae HY).ah (ae B5))
 clear hv6 hb5 hp5 AB HV1 HV2 HV3 HV4 HV5 B3 HX HE5
 go_wp2_with fail
 refine (ae LY _ (ae HY5)).mono ?_
 rintro e6 w6 ⟨v7,rfl,hv7,hw⟩
 obtain rfl:=hw.symm
 clear hw
 have HV7:=af hv7
 clear hv7 LY
 go_wp2_with fail
 refine (ae MU _ _ _ (ae HV3') (ae HV7)).mono ?_
 rintro e7 w7 ⟨v8,rfl,hv8,hb7⟩
 have I0:=af (zfw.mk ((ae HV3').ah hb7) ((ae HV6).ah hb7) ((ae HY5).ah hb7) hv8 (ae HS) rfl ((ae B5).trans' hb7) (fun _=>(ae HE6).but (ae HV6) hb7))
 clear HE6 hv8 hb7 MU HV3' HV6 HV7 HY5 B5 HY HS
 go_wp2_with fail
 go_loopg [8,10] (T-M0) (fun k vq vm wr=>Hid (∃ Q M,zfw w wr X Y T (.slice a1 nx c1) (.slice a2 ny c2) v8 vq vm k Q M))
 case atStart=>exact⟨q0,M0,ae I0⟩
 case round =>
  clear I0
  obtain⟨Q,M,I⟩:=ae hrel
  clear hrel
  obtain⟨pT,pX,pY,hl,hY0⟩:=ae HL
  have ml:=I.len pT pY
  have qll:=I.jam hY0 pT pX
  have tl:(wd 18446744073709551616 T).length≤nx+ny:=aj (by omega) _ _ pT
  have yl:(wd 18446744073709551616 Y).length≤nx+ny:=aj (by omega) _ _ pY
  have CM:=af (oq _ _ M T wr I.m I.t (by omega) (by omega))
  have HI:=af I
  rcases Nat.lt_or_ge M T with hlt | hge
  ·rw[zcb hlt] at CM
   have hq1:=I.inv.pos hlt
   have NX:=af (I.inv.next hlt)
   have SB:=af (fun W v1 v2 (h1:Sl .u64 W v1 (wd 18446744073709551616 Q)) (h2:Sl .u64 W v2 (wd 18446744073709551616 1))=>zex v1 v2 Q 1 W h1 h2 (by omega) hq1)
   have AD:=af (fun W v1 v2 (h1:Sl .u64 W v1 (wd 18446744073709551616 M)) (h2:Sl .u64 W v2 (wd 18446744073709551616 Y))=>zey v1 v2 M Y W h1 h2 (by omega) (by omega))
   have MS:Hid (T-(M+Y)<gk):=by
    have:=I.k
    show _<_
    omega
   clear I ml qll tl yl pT pX pY hl hq1
   go_wp2_with fail
   refine (ae CM).mono ?_
   rintro e8 w8 ⟨rfl,q,rfl⟩
   have bq:But [] wr (wr.drewN q):=(But.refl _ _).drewN q
   have J8:=af bq
   clear bq CM
   go_wp2_with fail
   refine (zbf 1 (by omega) _).mono ?_
   rintro e9 w9 ⟨v9,rfl,hv9,hb9,-⟩
   have J9:Hid (But [] wr w9):=(ae J8).trans' hb9
   have HV9:=af hv9
   clear hv9 hb9 J8
   go_wp2_with fail
   refine (ae SB _ _ _ ((ae HI).q.ah (ae J9)) (ae HV9)).mono ?_
   rintro e10 w10 ⟨v10,rfl,hv10,hb10⟩
   have J10:Hid (But [] wr w10):=(ae J9).trans' hb10
   have HV10:=af hv10
   clear hv10 hb10 J9 HV9 SB
   go_wp2_with fail
   refine (ae AD _ _ _ ((ae HI).m.ah (ae J10)) ((ae HI).y.ah (ae J10))).mono ?_
   rintro e11 w11 ⟨v11,rfl,hv11,hb11⟩
   have J11:=(ae J10).trans' hb11
   have R:Hid (zfw w w11 X Y T (.slice a1 nx c1) (.slice a2 ny c2) v8 v10 v11 (T-(M+Y)) (Q-1) (M+Y)):=af (zfw.mk ((ae HV10).ah hb11) hv11 ((ae HI).y.ah J11) ((ae HI).t.ah J11) (ae NX) rfl ((ae HI).but.trans' J11) (fun h0=>absurd h0 (by omega)))
   clear hv11 hb11 J11 J10 HV10 AD NX HI
   go_wp2
   go_roundg (T-(M+Y))
   case measure=>exact ae MS
   case rel=>exact⟨_,_,ae R⟩
  ·have hc0:=zec hge
   generalize zz M T=r at *
   have hr:decide (r<0)=false:=by simp;omega
   have hr':¬ r<0:=by omega
   obtain⟨f1,f2⟩:=I.inv.fin hge
   have FE:=af (And.intro f1 f2)
   have SB:=af (fun W v1 v2 (h1:Sl .u64 W v1 (wd 18446744073709551616 M)) (h2:Sl .u64 W v2 (wd 18446744073709551616 T))=>qig v1 v2 M T W h1 h2 (by omega) hge)
   clear I ml qll tl yl pT pX pY hl f1 f2
   go_wp2_with fail
   refine (ae CM).mono ?_
   rintro e8 w8 ⟨rfl,q,rfl⟩
   have J8:Hid (But [] wr (wr.drewN q)):=(But.refl _ _).drewN q
   clear CM
   go_wp2_with fail
   refine (ae SB _ _ _ ((ae HI).m.ah (ae J8)) ((ae HI).t.ah (ae J8))).mono ?_
   rintro e9 w9 ⟨v9,rfl,hv9,hb9,hp9⟩
   have J9:=(ae J8).trans' hb9
   have HE:xw w (.slice a1 nx c1) w9 v9:=by
    rcases hp9 with ⟨hT0,rfl⟩ | ho
    ·exact ((ae HI).heir hT0).but (ae HI).m J9
    ·exact (xw.zis ho).pre ((ae HI).but.trans' (ae J8)).size
   have FIN:=af (And.intro ((ae HI).q.ah J9) (And.intro hv9 (And.intro ((ae HI).but.trans' J9) HE)))
   clear hv9 hb9 hp9 HE J9 J8 SB HI
   go_wp2
   go_ret2
   exact⟨_,_,rfl,by rw[(ae FE).1];exact (ae FIN).1,by rw[(ae FE).2];exact (ae FIN).2.1,(ae FIN).2.2⟩
theorem o9 (B:Nat) (xs:List Nat) (k:Nat):vl B (xs.take (k+1))=vl B (xs.take k)+xs[k]?.getD 0*B^k:=by
 rcases Nat.lt_or_ge k xs.length with h | h
 ·exact jk B xs k h
 ·rw[List.take_of_length_le h,List.take_of_length_le (by omega),List.getElem?_eq_none h];simp
theorem zpj (B:Nat) (rs:List Nat) (k s:Nat) (hk:k<rs.length) (hz:rs[k]?.getD 0=0):vl B (rs.set k s)=vl B rs+s*B^k:=by
 have:=sw B rs k s hk
 rw[hz,Nat.zero_mul,Nat.add_zero] at this
 exact this
structure fw (k:IntKind) (w:World) (g:Nat) (rs:List Nat):Prop where
 row:Row k w g rs
 ints:0<rs.length→Ints k w g
theorem qdx (k:IntKind) (w:World) (n:Nat) (t:TypeId):Ints k (w.alloc (.cells (madeCells #[.int k 0] n) t)) w.heap.size:=fun i v hv=>by
 rw[World.cell?_alloc_new] at hv
 unfold madeCells at hv
 rw[Array.getElem?_map] at hv
 obtain⟨x,-,rfl⟩:=Option.map_eq_some_iff.1 hv
 exact⟨0,by simp[Nat.mod_one]⟩
theorem fw.made (k:IntKind) (w:World) (n:Nat) (t:TypeId):fw k (w.alloc (.cells (madeCells #[.int k 0] n) t)) w.heap.size (List.replicate n 0):=⟨Row.made k w n t,fun _=>qdx k w n t⟩
theorem fw.set {k:IntKind} {w:World} {g:Nat} {rs:List Nat} (h:fw k w g rs) (i:Nat) (hi:i<rs.length) (t:Nat):fw k (w.setCell ⟨g,i,none⟩ (.int k t)) g (rs.set i t):=⟨h.row.set i hi t,fun h0=>(h.ints (by rw[List.length_set] at h0;exact h0)).set i t⟩
theorem fw.sl {k:IntKind} {w:World} {g:Nat} {rs:List Nat} (h:fw k w g rs) (cap:Nat) (hc:rs.length≤cap):Sl k w (.slice (some ⟨g,0,none⟩) rs.length cap) rs:=Sl.mk g 0 cap hc (fun i hi=>by rw[Nat.zero_add];exact (h.row i hi).1) h.ints
theorem fw.lt {k:IntKind} {w:World} {g:Nat} {rs:List Nat} (h:fw k w g rs) (h0:0<rs.length):g<w.heap.size:=ai (h.row 0 h0).1
theorem fw.but {k:IntKind} {w w':World} {g:Nat} {rs:List Nat} {l:List Nat} (h:fw k w g rs) (hb:But l w w') (hn:g ∉ l):fw k w' g rs:=⟨fun i hi=>by
 have hl:=ai (h.row i hi).1
 exact⟨hb.ag (h.row i hi).1 hn,(hb.frozen (p:=⟨g,i,none⟩) hl hn).trans (h.row i hi).2⟩,fun h0=>(h.ints h0).but hb (h.lt h0) hn⟩
theorem fw.drewN {k:IntKind} {w:World} {g:Nat} {rs:List Nat} (h:fw k w g rs) (q:Nat):fw k (w.drewN q) g rs:=h.but ((But.refl [] _).drewN q) (by simp)
/-! ### sums -/
structure zxu (xs ys rs:List Nat) (k c:Nat):Prop where
 len:rs.length=xs.length+1
 mem:∀ x ∈ rs,x<4294967296
 car:c≤1
 val:vl 4294967296 rs+c*4294967296^k=vl 4294967296 (xs.take k)+vl 4294967296 (ys.take k)
 zero:∀ j,k≤j→rs[j]?.getD 0=0
theorem zxu.start (xs ys:List Nat):zxu xs ys (List.replicate (xs.length+1) 0) 0 0 :=
 ⟨by simp,fun x hx=>by rw[List.mem_replicate] at hx;omega,by omega,by simp[j5,vl],fun j _=>by rw[List.getElem?_replicate];split <;> rfl⟩
theorem zxu.step {xs ys rs:List Nat} {k c:Nat} (h:zxu xs ys rs k c) (hk:k<xs.length) (hx:xs[k]?.getD 0<4294967296) (hy:ys[k]?.getD 0<4294967296) (t:Nat) (ht:t=c+xs[k]?.getD 0+ys[k]?.getD 0):zxu xs ys (rs.set k (t%4294967296)) (k+1) (t/4294967296):=by
 have hl:=h.len
 refine⟨by rw[List.length_set];exact hl,mem_set h.mem _ _ (Nat.mod_lt _ (by omega)),by have:=h.car;omega,?_,fun j hj=>by rw[List.getElem?_set_ne (by omega)];exact h.zero j (by omega)⟩
 rw[zpj _ rs k _ (by omega) (h.zero k (Nat.le_refl _)),o9,o9,Nat.pow_succ]
 have hv:=h.val
 have he:=Nat.div_add_mod t 4294967296
 have h3:c+xs[k]?.getD 0+ys[k]?.getD 0=4294967296*(t/4294967296)+t%4294967296:=by omega
 have h2:(c+xs[k]?.getD 0+ys[k]?.getD 0)*4294967296^k=(4294967296*(t/4294967296)+t%4294967296)*4294967296^k:=by rw[h3]
 generalize (4294967296:Nat)^k=P at *
 generalize t/4294967296=q at *
 generalize t%4294967296=s at *
 generalize vl 4294967296 rs=R at *
 generalize vl 4294967296 (xs.take k)=V1 at *
 generalize vl 4294967296 (ys.take k)=V2 at *
 grind
theorem zxu.fin {xs ys rs:List Nat} {c:Nat} (h:zxu xs ys rs xs.length c) (hy:ys.length≤xs.length):vl 4294967296 (rs.set xs.length c)=vl 4294967296 xs+vl 4294967296 ys∧(∀ x ∈ rs.set xs.length c,x<4294967296):=by
 refine⟨?_,mem_set h.mem _ _ (by have:=h.car;omega)⟩
 have hv:=h.val
 rw[List.take_length,List.take_of_length_le hy] at hv
 rw[zpj _ rs _ _ (by have:=h.len;omega) (h.zero _ (Nat.le_refl _)),hv]
/-! ### differences -/
structure zxq (xs ys rs:List Nat) (k c:Nat):Prop where
 len:rs.length=xs.length
 mem:∀ x ∈ rs,x<4294967296
 car:c≤1
 val:vl 4294967296 rs+vl 4294967296 (ys.take k)=vl 4294967296 (xs.take k)+c*4294967296^k
 zero:∀ j,k≤j→rs[j]?.getD 0=0
theorem zxq.start (xs ys:List Nat):zxq xs ys (List.replicate xs.length 0) 0 0 :=
 ⟨by simp,fun x hx=>by rw[List.mem_replicate] at hx;omega,by omega,by simp[j5,vl],fun j _=>by rw[List.getElem?_replicate];split <;> rfl⟩
theorem zxq.step {xs ys rs:List Nat} {k c:Nat} (h:zxq xs ys rs k c) (hk:k<xs.length) (s c':Nat) (hs:s<4294967296) (hc:c'≤1) (e:s+c+ys[k]?.getD 0=xs[k]?.getD 0+4294967296*c'):zxq xs ys (rs.set k s) (k+1) c':=by
 have hl:=h.len
 refine⟨by rw[List.length_set];exact hl,mem_set h.mem _ _ hs,hc,?_,fun j hj=>by rw[List.getElem?_set_ne (by omega)];exact h.zero j (by omega)⟩
 rw[zpj _ rs k _ (by omega) (h.zero k (Nat.le_refl _)),o9,o9,Nat.pow_succ]
 have hv:=h.val
 have h2:(s+c+ys[k]?.getD 0)*4294967296^k=(xs[k]?.getD 0+4294967296*c')*4294967296^k:=by rw[e]
 generalize (4294967296:Nat)^k=P at *
 generalize vl 4294967296 rs=R at *
 generalize vl 4294967296 (xs.take k)=V1 at *
 generalize vl 4294967296 (ys.take k)=V2 at *
 grind
theorem zxq.fin {xs ys rs:List Nat} {c:Nat} (h:zxq xs ys rs xs.length c) (hy:ys.length≤xs.length) (hle:vl 4294967296 ys≤vl 4294967296 xs):vl 4294967296 rs=vl 4294967296 xs-vl 4294967296 ys:=by
 have hv:=h.val
 rw[List.take_length,List.take_of_length_le hy] at hv
 have h1:=zak (by omega:0<4294967296) rs h.mem
 rw[h.len] at h1
 rcases Nat.eq_zero_or_pos c with h0 | h0
 ·rw[h0] at hv;omega
 ·have:4294967296^xs.length≤c*4294967296^xs.length:=Nat.le_mul_of_pos_left _ h0
  omega
/-! ### shifts -/
theorem qfz (B Y:Nat):∀ (n:Nat) (rs:List Nat),rs.length=n→(∀ j,j<n→rs[j]?.getD 0=Y/B^j%B)→vl B rs=Y%B^n:=by
 intro n
 induction n with
 | zero =>
  intro rs h _
  have:rs=[]:=List.length_eq_zero_iff.1 h
  subst this;simp[vl,Nat.mod_one]
 | succ n ih =>
  intro rs h hd
  have e:=jk B rs n (by omega)
  rw[List.take_of_length_le (by omega)] at e
  rw[e,ih (rs.take n) (by rw[List.length_take];omega) (fun j hj=>by rw[List.getElem?_take_of_lt hj];exact hd j (by omega)),hd n (by omega),Nat.pow_succ,Nat.mod_mul,Nat.mul_comm (Y/B^n%B)]
structure zml (S W P u0 u1 u2 v1 v2:Nat):Prop where
 s:∃ Sr,S=((u0*4294967296+u1)*4294967296+u2)*P+Sr∧Sr<P
 w:∃ Wr,W=(v1*4294967296+v2)*P+Wr∧Wr<P
 lt:S<W*4294967296
 hi:2147483648≤v1
 hv1:v1<4294967296
 hv2:v2<4294967296
 hu1:u1<4294967296
 hu2:u2<4294967296
theorem zml.pos {S W P u0 u1 u2 v1 v2:Nat} (h:zml S W P u0 u1 u2 v1 v2):0<P∧0<W:=by
 obtain⟨Wr,h1,h2⟩:=h.w
 have:=h.hi
 refine⟨by omega,?_⟩
 rw[h1]
 have h3:1*P≤(v1*4294967296+v2)*P:=Nat.mul_le_mul_right _ (by omega)
 omega
theorem zml.top {S W P u0 u1 u2 v1 v2:Nat} (h:zml S W P u0 u1 u2 v1 v2):u0≤v1:=by
 obtain⟨Sr,hs,-⟩:=h.s
 obtain⟨Wr,hw,hwr⟩:=h.w
 have hP:=h.pos.1
 have hlt:=h.lt
 have h2:=h.hv2
 rcases Nat.lt_or_ge v1 u0 with hc | hc
 ·exfalso
  have h3:(v1+1)*4294967296*4294967296*P≤((u0*4294967296+u1)*4294967296+u2)*P:=Nat.mul_le_mul_right _ (by omega)
  have h4:W<(v1+1)*4294967296*P:=by
   have:(v1*4294967296+v2+1)*P≤(v1+1)*4294967296*P:=Nat.mul_le_mul_right _ (by omega)
   rw[Nat.succ_mul] at this
   omega
  have h5:W*4294967296<(v1+1)*4294967296*P*4294967296:=by omega
  have h6:(v1+1)*4294967296*P*4294967296=(v1+1)*4294967296*4294967296*P:=by grind
  omega
 ·exact hc
theorem zml.qzo {S W P u0 u1 u2 v1 v2:Nat} (h:zml S W P u0 u1 u2 v1 v2):S/W<4294967296:=Nat.div_lt_of_lt_mul h.lt
theorem zml.qzb {S W P u0 u1 u2 v1 v2:Nat} (h:zml S W P u0 u1 u2 v1 v2) (g:Nat) (hg:g≤S/W):g*(v1*4294967296+v2)≤(u0*4294967296+u1)*4294967296+u2:=by
 obtain⟨Sr,hs,hsr⟩:=h.s
 obtain⟨Wr,hw,hwr⟩:=h.w
 have h1:g*W≤S:=Nat.le_trans (Nat.mul_le_mul_right _ hg) (Nat.div_mul_le_self S W)
 have h2:g*(v1*4294967296+v2)*P≤g*W:=by
  have e:g*W=g*(v1*4294967296+v2)*P+g*Wr:=by rw[hw];grind
  omega
 rcases Nat.lt_or_ge ((u0*4294967296+u1)*4294967296+u2) (g*(v1*4294967296+v2)) with hc | hc
 ·exfalso
  have h3:((u0*4294967296+u1)*4294967296+u2+1)*P≤g*(v1*4294967296+v2)*P:=Nat.mul_le_mul_right _ hc
  rw[Nat.succ_mul] at h3
  omega
 ·exact hc
structure zdm (S W u0 u1 v1 g r:Nat):Prop where
 eq:u0*4294967296+u1=g*v1+r
 ge:S/W≤g
 le:g≤4294967297
theorem zdm.start {S W P u0 u1 u2 v1 v2:Nat} (h:zml S W P u0 u1 u2 v1 v2):zdm S W u0 u1 v1 ((u0*4294967296+u1)/v1) ((u0*4294967296+u1)%v1):=by
 have hv:=h.hi
 refine⟨(Nat.div_add_mod' _ _).symm,?_,?_⟩
 ·rw[Nat.le_div_iff_mul_le (by omega)]
  have h1:=h.qzb (S/W) (Nat.le_refl _)
  have h2:=h.hu2
  rw[Nat.mul_add,← Nat.mul_assoc] at h1
  omega
 ·have h1:=h.top
  have h2:=h.hu1
  have h3:(u0*4294967296+u1)/v1<4294967298:=by
   rw[Nat.div_lt_iff_lt_mul (by omega)]
   omega
  omega
theorem zdm.next {S W P u0 u1 u2 v1 v2 g r:Nat} (h:zml S W P u0 u1 u2 v1 v2) (k:zdm S W u0 u1 v1 g r) (hc:4294967295<g∨r*4294967296+u2<g*v2):0<g∧zdm S W u0 u1 v1 (g-1) (r+v1):=by
 have hq:S/W<g:=by
  rcases hc with hc | hc
  ·exact Nat.lt_of_lt_of_le h.qzo hc
  ·rcases Nat.lt_or_ge (S/W) g with h1 | h1
   ·exact h1
   ·exfalso
    have h2:=h.qzb g h1
    rw[k.eq,Nat.mul_add,← Nat.mul_assoc] at h2
    omega
 have h0:0<g:=Nat.lt_of_le_of_lt (Nat.zero_le _) hq
 refine⟨h0,?_,Nat.le_sub_one_of_lt hq,Nat.le_trans (Nat.sub_le _ _) k.le⟩
 have e:=k.eq
 obtain⟨p,rfl⟩:∃ p,g=p+1:=⟨g-1,by omega⟩
 rw[Nat.succ_mul] at e
 rw[Nat.add_sub_cancel]
 omega
theorem zdm.small {S W P u0 u1 u2 v1 v2 g r:Nat} (h:zml S W P u0 u1 u2 v1 v2) (k:zdm S W u0 u1 v1 g r) (hr:4294967296≤r):g≤4294967295∧g*v2≤r*4294967296+u2:=by
 have h1:=h.top
 have h2:=h.hu1
 have e:=k.eq
 have hg:g≤4294967295:=by
  rcases Nat.lt_or_ge 4294967295 g with hc | hc
  ·exfalso
   have h3:4294967296*v1≤g*v1:=Nat.mul_le_mul_right _ hc
   omega
  ·exact hc
 refine⟨hg,?_⟩
 have h4:g*v2≤4294967295*4294967295:=Nat.mul_le_mul hg (by have:=h.hv2;omega)
 omega
theorem zdm.fin {S W P u0 u1 u2 v1 v2 g r:Nat} (h:zml S W P u0 u1 u2 v1 v2) (k:zdm S W u0 u1 v1 g r) (hg:g≤4294967295) (ht:g*v2≤r*4294967296+u2):g=S/W∨(g=S/W+1):=by
 obtain⟨Sr,hs,hsr⟩:=h.s
 obtain⟨Wr,hw,hwr⟩:=h.w
 have hW:=h.pos.2
 have h1:g*(v1*4294967296+v2)≤(u0*4294967296+u1)*4294967296+u2:=by
  rw[k.eq,Nat.mul_add,← Nat.mul_assoc];omega
 have h2:g*(v1*4294967296+v2)*P≤((u0*4294967296+u1)*4294967296+u2)*P:=Nat.mul_le_mul_right _ h1
 have h3:g*Wr≤g*P:=Nat.mul_le_mul_left _ (by omega)
 have h4:g*P≤W:=by
  rw[hw]
  have:g*P≤(v1*4294967296+v2)*P:=Nat.mul_le_mul_right _ (by have:=h.hi;omega)
  omega
 have h5:g*W≤S+W:=by
  have:g*W=g*(v1*4294967296+v2)*P+g*Wr:=by rw[hw];grind
  omega
 have h6:g≤S/W+1:=by
  rcases Nat.eq_zero_or_pos g with h0 | h0
  ·rw[h0];exact Nat.zero_le _
  ·obtain⟨p,rfl⟩:∃ p,g=p+1:=⟨g-1,by omega⟩
   rw[Nat.succ_mul] at h5
   have:p≤S/W:=by rw[Nat.le_div_iff_mul_le hW];omega
   exact Nat.succ_le_succ this
 have h7:=k.ge
 generalize S/W=Q at *
 omega
/-! ### taking away -/
structure Taken (us0 us vs:List Nat) (j k c d g:Nat):Prop where
 len:us.length=us0.length
 mem:∀ x ∈ us,x<4294967296
 car:c<4294967296
 bor:d≤1
 val:vl 4294967296 us+4294967296^j*(g*vl 4294967296 (vs.take k))=vl 4294967296 us0+4294967296^(j+k)*(c+d)
 same:∀ i,j+k≤i→us[i]?.getD 0=us0[i]?.getD 0
theorem Taken.start (us vs:List Nat) (j g:Nat) (hm:∀ x ∈ us,x<4294967296):Taken us us vs j 0 0 0 g :=
 ⟨rfl,hm,by omega,by omega,by simp[vl],fun _ _=>rfl⟩
theorem Taken.step {us0 us vs:List Nat} {j k c d g:Nat} (h:Taken us0 us vs j k c d g) (hk:j+k<us0.length) (hv:vs[k]?.getD 0<4294967296) (hg:g≤4294967295) (c1 s d':Nat) (hc1:c1=c+g*vs[k]?.getD 0) (hs:s<4294967296) (hd:d'≤1) (e:s+c1%4294967296+d=us[j+k]?.getD 0+4294967296*d'):Taken us0 (us.set (j+k) s) vs j (k+1) (c1/4294967296) d' g:=by
 have hl:=h.len
 have hcc:c1<4294967296*4294967296:=by
  have:g*vs[k]?.getD 0≤4294967295*4294967295:=Nat.mul_le_mul hg (by omega)
  have:=h.car
  omega
 refine⟨by rw[List.length_set];exact hl,mem_set h.mem _ _ hs,Nat.div_lt_of_lt_mul hcc,hd,?_,fun i hi=>by rw[List.getElem?_set_ne (by omega)];exact h.same i (by omega)⟩
 have h1:=sw 4294967296 us (j+k) s (by omega)
 have h2:=h.val
 have h3:=Nat.div_add_mod c1 4294967296
 rw[o9,show j+(k+1)=j+k+1 from by omega,Nat.pow_succ,Nat.pow_add] at *
 generalize us[j+k]?.getD 0=u at *
 generalize vs[k]?.getD 0=v at *
 generalize vl 4294967296 (us.set (j+k) s)=A at *
 generalize vl 4294967296 us=B at *
 generalize vl 4294967296 us0=D at *
 generalize vl 4294967296 (vs.take k)=E at *
 generalize c1/4294967296=hi at *
 generalize c1%4294967296=lo at *
 generalize (4294967296:Nat)^j=P at *
 generalize (4294967296:Nat)^k=Q at *
 have e2:(s+lo+d)*(P*Q)=(u+4294967296*d')*(P*Q):=by rw[e]
 have e3:(4294967296*hi+lo)*(P*Q)=(c+g*v)*(P*Q):=by rw[h3,hc1]
 grind
/-! ### adding back -/
structure zxt (us0 us vs:List Nat) (j k c:Nat):Prop where
 len:us.length=us0.length
 mem:∀ x ∈ us,x<4294967296
 car:c≤1
 val:vl 4294967296 us+4294967296^(j+k)*c=vl 4294967296 us0+4294967296^j*vl 4294967296 (vs.take k)
 same:∀ i,j+k≤i→us[i]?.getD 0=us0[i]?.getD 0
theorem zxt.start (us vs:List Nat) (j:Nat) (hm:∀ x ∈ us,x<4294967296):zxt us us vs j 0 0 :=
 ⟨rfl,hm,by omega,by simp[vl],fun _ _=>rfl⟩
theorem zxt.step {us0 us vs:List Nat} {j k c:Nat} (h:zxt us0 us vs j k c) (hk:j+k<us0.length) (hv:vs[k]?.getD 0<4294967296) (hu:us[j+k]?.getD 0<4294967296) (c1:Nat) (hc1:c1=c+(us[j+k]?.getD 0+vs[k]?.getD 0)):zxt us0 (us.set (j+k) (c1%4294967296)) vs j (k+1) (c1/4294967296):=by
 have hl:=h.len
 refine⟨by rw[List.length_set];exact hl,mem_set h.mem _ _ (Nat.mod_lt _ (by omega)),by have:=h.car;omega,?_,fun i hi=>by rw[List.getElem?_set_ne (by omega)];exact h.same i (by omega)⟩
 have h1:=sw 4294967296 us (j+k) (c1%4294967296) (by omega)
 have h2:=h.val
 have h3:=Nat.div_add_mod c1 4294967296
 rw[o9,show j+(k+1)=j+k+1 from by omega,Nat.pow_succ,Nat.pow_add] at *
 generalize us[j+k]?.getD 0=u at *
 generalize vs[k]?.getD 0=v at *
 generalize vl 4294967296 (us.set (j+k) (c1%4294967296))=A at *
 generalize vl 4294967296 us=B at *
 generalize vl 4294967296 us0=D at *
 generalize vl 4294967296 (vs.take k)=E at *
 generalize c1/4294967296=hi at *
 generalize c1%4294967296=lo at *
 generalize (4294967296:Nat)^j=P at *
 generalize (4294967296:Nat)^k=Q at *
 have e3:(4294967296*hi+lo)*(P*Q)=(c+(u+v))*(P*Q):=by rw[h3,hc1]
 grind
theorem zko (us:List Nat) (m:Nat) (h:vl 4294967296 us<4294967296^m):∀ i,m≤i→us[i]?.getD 0=0:=fun i hi=>by
 rcases Nat.lt_or_ge i us.length with hl | hl
 ·have e:=zda 4294967296 us i hl
  rcases Nat.eq_zero_or_pos (us[i]?.getD 0) with h0 | h0
  ·exact h0
  ·exfalso
   have h1:4294967296^i*1≤4294967296^i*(us[i]?.getD 0+4294967296*vl 4294967296 (us.drop (i+1))):=Nat.mul_le_mul_left _ (by omega)
   have h2:4294967296^m≤4294967296^i:=Nat.pow_le_pow_right (by omega) hi
   omega
 ·rw[List.getElem?_eq_none hl];rfl
theorem zbo (us:List Nat) (m:Nat) (hz:∀ i,m≤i→us[i]?.getD 0=0):vl 4294967296 (us.drop m)=0:=zeo _ _ (fun j _=>by rw[List.getElem?_drop];exact hz _ (by omega))
theorem zbn (us:List Nat) (m:Nat) (hm:m≤us.length):vl 4294967296 us=vl 4294967296 (us.take m)+4294967296^m*vl 4294967296 (us.drop m):=by
 have:=congrArg (vl 4294967296) (List.take_append_drop m us)
 rw[z8,List.length_take,Nat.min_eq_left hm] at this
 exact this.symm
theorem bf (us:List Nat) (m:Nat) (hm:m≤us.length) (hx:∀ x ∈ us,x<4294967296):vl 4294967296 (us.take m)<4294967296^m:=by
 have:=zak (by omega:0<4294967296) (us.take m) (fun x h=>hx x (List.mem_of_mem_take h))
 rw[List.length_take,Nat.min_eq_left hm] at this
 exact this
theorem qfy (us:List Nat) (m:Nat) (hm:m≤us.length) (hx:∀ x ∈ us,x<4294967296) (hz:∀ i,m≤i→us[i]?.getD 0=0):vl 4294967296 us<4294967296^m:=by
 rw[zbn us m hm,zbo us m hz,Nat.mul_zero,Nat.add_zero]
 exact bf us m hm hx
theorem zxz (us:List Nat) (m:Nat) (hm:m<us.length) (hz:∀ i,m+1≤i→us[i]?.getD 0=0):vl 4294967296 us=vl 4294967296 (us.take m)+4294967296^m*us[m]?.getD 0:=by
 rw[zbn us m (by omega),ig 4294967296 us m hm,zbo us (m+1) hz,Nat.mul_zero,Nat.add_zero]
theorem qpk (us vs:List Nat) (j n:Nat) (hn:vs.length=n+2) (hj:j+(n+2)<us.length) (hu:∀ x ∈ us,x<4294967296) (hv:∀ x ∈ vs,x<4294967296) (hlt:vl 4294967296 us<vl 4294967296 vs*4294967296^j*4294967296) (hhi:2147483648≤vs[n+1]?.getD 0) :
  zml (vl 4294967296 us) (vl 4294967296 vs*4294967296^j) (4294967296^(j+n)) (us[j+(n+2)]?.getD 0) (us[j+(n+2)-1]?.getD 0) (us[j+(n+2)-2]?.getD 0) (vs[n+1]?.getD 0) (vs[n]?.getD 0):=by
 have bu:=fun i=>cm hu (by omega:0<4294967296) i
 have bv:=fun i=>cm hv (by omega:0<4294967296) i
 have hV:=zak (by omega:0<4294967296) vs hv
 have hS:vl 4294967296 us<4294967296^(j+(n+2)+1):=by
  refine Nat.lt_of_lt_of_le hlt ?_
  rw[show 4294967296^(j+(n+2)+1)=4294967296^(n+2)*4294967296^j*4294967296 from by rw[← Nat.pow_add,← Nat.pow_succ];congr 1;omega]
  rw[hn] at hV
  exact Nat.mul_le_mul_right _ (Nat.mul_le_mul_right _ (Nat.le_of_lt hV))
 have hz:=zko us _ hS
 refine⟨⟨vl 4294967296 (us.take (j+n)),?_,bf us _ (by omega) hu⟩,⟨vl 4294967296 (vs.take n)*4294967296^j,?_,?_⟩,hlt,hhi,bv _,bv _,bu _,bu _⟩
 ·rw[zbn us (j+n) (by omega),ig _ us (j+n) (by omega),ig _ us (j+n+1) (by omega),ig _ us (j+n+1+1) (by omega),zbo us (j+n+1+1+1) (fun i hi=>hz i (by omega))]
  rw[show j+(n+2)=j+n+1+1 from by omega,show j+n+1+1-1=j+n+1 from by omega,show j+n+1+1-2=j+n from by omega]
  grind
 ·rw[zbn vs n (by omega),ig _ vs n (by omega),ig _ vs (n+1) (by omega),zbo vs (n+1+1) (fun i hi=>by rw[List.getElem?_eq_none (by omega)];rfl),Nat.pow_add]
  grind
 ·rw[Nat.pow_add,Nat.mul_comm (4294967296^j)]
  exact Nat.mul_lt_mul_of_pos_right (bf vs n (by omega) hv) (Nat.pow_pos (by omega))
theorem qcg {us0 us vs:List Nat} {j n c d g u:Nat} (h:Taken us0 us vs j n c d g) (hn:vs.length=n) (hj:j+n<us0.length) (hu:us[j+n]?.getD 0=u) (hge:c+d≤u) (hg:vl 4294967296 us0/(vl 4294967296 vs*4294967296^j)≤g) (hW:0<vl 4294967296 vs*4294967296^j) :
  g=vl 4294967296 us0/(vl 4294967296 vs*4294967296^j)∧vl 4294967296 (us.set (j+n) (u-c-d))=vl 4294967296 us0%(vl 4294967296 vs*4294967296^j):=by
 have h1:=sw 4294967296 us (j+n) (u-c-d) (by rw[h.len];exact hj)
 have h2:=h.val
 rw[hu] at h1
 rw[List.take_of_length_le (by omega)] at h2
 have e:vl 4294967296 (us.set (j+n) (u-c-d))+g*(vl 4294967296 vs*4294967296^j)=vl 4294967296 us0:=by
  obtain⟨z,hz⟩:∃ z,u=c+d+z:=⟨u-(c+d),by omega⟩
  rw[show u-c-d=z from by omega] at h1 ⊢
  subst hz
  generalize vl 4294967296 (us.set (j+n) z)=X at *
  generalize vl 4294967296 us=Y at *
  generalize vl 4294967296 us0=S at *
  generalize (4294967296:Nat)^(j+n)=Q at *
  generalize (4294967296:Nat)^j=P at *
  grind
 generalize vl 4294967296 vs*4294967296^j=W at *
 generalize vl 4294967296 us0=S at *
 have hq:g≤S/W:=by rw[Nat.le_div_iff_mul_le hW];omega
 have hqe:g=S/W:=Nat.le_antisymm hq hg
 refine⟨hqe,?_⟩
 have h3:=Nat.div_add_mod S W
 rw[← hqe,Nat.mul_comm] at h3
 omega
theorem qcf {us0 us vs:List Nat} {j n c d g u:Nat} (h:Taken us0 us vs j n c d g) (hn:vs.length=n) (hj:j+n<us0.length) (hu:us[j+n]?.getD 0=u) (hlt:u<c+d) (hg:g=vl 4294967296 us0/(vl 4294967296 vs*4294967296^j)∨g=vl 4294967296 us0/(vl 4294967296 vs*4294967296^j)+1) (hS:vl 4294967296 us0<4294967296^(j+n+1)) :
  g=vl 4294967296 us0/(vl 4294967296 vs*4294967296^j)+1∧vl 4294967296 (us.set (j+n) (u+4294967296-(c+d)))+vl 4294967296 vs*4294967296^j=vl 4294967296 us0%(vl 4294967296 vs*4294967296^j)+4294967296^(j+n+1)∧(∀ x ∈ us.set (j+n) (u+4294967296-(c+d)),x<4294967296)∧(∀ i,j+n+1≤i→(us.set (j+n) (u+4294967296-(c+d)))[i]?.getD 0=0):=by
 have hc:=h.car
 have hd:=h.bor
 have hl:=h.len
 have hz:=zko us0 _ hS
 have hm':∀ x ∈ us.set (j+n) (u+4294967296-(c+d)),x<4294967296:=mem_set h.mem _ _ (by omega)
 have hz':∀ i,j+n+1≤i→(us.set (j+n) (u+4294967296-(c+d)))[i]?.getD 0=0:=fun i hi=>by
  rw[List.getElem?_set_ne (by omega),h.same i (by omega)];exact hz i hi
 have hlt':=qfy (us.set (j+n) (u+4294967296-(c+d))) (j+n+1) (by rw[List.length_set,hl];omega) hm' hz'
 have h1:=sw 4294967296 us (j+n) (u+4294967296-(c+d)) (by rw[h.len];exact hj)
 have h2:=h.val
 rw[hu] at h1
 rw[List.take_of_length_le (by omega)] at h2
 have e:vl 4294967296 (us.set (j+n) (u+4294967296-(c+d)))+g*(vl 4294967296 vs*4294967296^j)=vl 4294967296 us0+4294967296^(j+n+1):=by
  obtain⟨z,hz⟩:∃ z,z+(c+d)=u+4294967296:=⟨u+4294967296-(c+d),by omega⟩
  rw[show u+4294967296-(c+d)=z from by omega] at h1 ⊢
  rw[Nat.pow_succ]
  generalize vl 4294967296 (us.set (j+n) z)=X at *
  generalize vl 4294967296 us=Y at *
  generalize vl 4294967296 us0=S at *
  generalize (4294967296:Nat)^(j+n)=Q at *
  generalize (4294967296:Nat)^j=P at *
  have e2:(z+(c+d))*Q=(u+4294967296)*Q:=by rw[hz]
  grind
 refine⟨?_,?_,hm',hz'⟩
 ·rcases hg with hg | hg
  ·exfalso
   have h3:=Nat.div_mul_le_self (vl 4294967296 us0) (vl 4294967296 vs*4294967296^j)
   rw[← hg] at h3
   omega
  ·exact hg
 ·have hg':g=vl 4294967296 us0/(vl 4294967296 vs*4294967296^j)+1:=by
   rcases hg with hg | hg
   ·exfalso
    have h3:=Nat.div_mul_le_self (vl 4294967296 us0) (vl 4294967296 vs*4294967296^j)
    rw[← hg] at h3
    omega
   ·exact hg
  have h3:=Nat.div_add_mod (vl 4294967296 us0) (vl 4294967296 vs*4294967296^j)
  rw[hg',Nat.succ_mul] at e
  rw[Nat.mul_comm] at h3
  omega
theorem qot {us0 us vs:List Nat} {j n c R W:Nat} (h:zxt us0 us vs j n c) (hn:vs.length=n) (hj:j+n<us0.length) (hz:∀ i,j+n+1≤i→us0[i]?.getD 0=0) (hW:W=vl 4294967296 vs*4294967296^j) (hWl:W≤4294967296^(j+n)) (hR:R<W) (e:vl 4294967296 us0+W=R+4294967296^(j+n+1)) :
  us[j+n]?.getD 0+c=4294967296∧vl 4294967296 (us.set (j+n) 0)=R:=by
 have h2:=h.val
 have hl:=h.len
 rw[List.take_of_length_le (by omega)] at h2
 have hz':∀ i,j+n+1≤i→us[i]?.getD 0=0:=fun i hi=>by rw[h.same i (by omega)];exact hz i hi
 have ht:=zxz us (j+n) (by omega) hz'
 have hlo:=bf us (j+n) (by omega) h.mem
 have h1:=sw 4294967296 us (j+n) 0 (by omega)
 rw[Nat.zero_mul,Nat.add_zero] at h1
 generalize us[j+n]?.getD 0=t at *
 rw[Nat.pow_succ] at e
 rw[Nat.mul_comm (4294967296^j),← hW] at h2
 generalize vl 4294967296 (us.take (j+n))=L at *
 generalize vl 4294967296 (us.set (j+n) 0)=X at *
 generalize vl 4294967296 us=Y at *
 generalize vl 4294967296 us0=S at *
 generalize (4294967296:Nat)^(j+n)=Q at *
 have e2:L+Q*(t+c)=R+Q*4294967296:=by grind
 have htc:t+c=4294967296:=by
  rcases Nat.lt_trichotomy (t+c) 4294967296 with hc | hc | hc
  ·exfalso
   have:Q*(t+c+1)≤Q*4294967296:=Nat.mul_le_mul_left _ hc
   rw[Nat.mul_succ] at this
   omega
  ·exact hc
  ·exfalso
   have:Q*(4294967296+1)≤Q*(t+c):=Nat.mul_le_mul_left _ hc
   rw[Nat.mul_succ] at this
   omega
 refine⟨htc,?_⟩
 rw[htc] at e2
 have:t*Q=Q*t:=Nat.mul_comm _ _
 omega
structure qcc (A V:Nat) (us qs:List Nat) (t:Nat):Prop where
 um:∀ x ∈ us,x<4294967296
 qm:∀ x ∈ qs,x<4294967296
 lt:vl 4294967296 us<V*4294967296^t
 zero:∀ j,j<t→qs[j]?.getD 0=0
 val:vl 4294967296 us+V*vl 4294967296 qs=A
theorem qcc.step {A V:Nat} {us us' qs:List Nat} {j q:Nat} (h:qcc A V us qs (j+1)) (hq:j<qs.length) (hq1:q=vl 4294967296 us/(V*4294967296^j)) (hV:0<V) (hm:∀ x ∈ us',x<4294967296) (hu:vl 4294967296 us'=vl 4294967296 us%(V*4294967296^j)):qcc A V us' (qs.set j q) j:=by
 have hW:0<V*4294967296^j:=Nat.mul_pos hV (Nat.pow_pos (by omega))
 have hqB:q<4294967296:=by
  rw[hq1]
  refine Nat.div_lt_of_lt_mul ?_
  have:=h.lt
  rw[Nat.pow_succ,← Nat.mul_assoc] at this
  exact this
 refine⟨hm,mem_set h.qm _ _ hqB,by rw[hu];exact Nat.mod_lt _ hW,fun i hi=>by rw[List.getElem?_set_ne (by omega)];exact h.zero i (by omega),?_⟩
 rw[zpj _ qs j q hq (h.zero j (by omega)),hu]
 have h1:=Nat.div_add_mod (vl 4294967296 us) (V*4294967296^j)
 rw[← hq1] at h1
 have h2:=h.val
 generalize vl 4294967296 us%(V*4294967296^j)=R at *
 generalize vl 4294967296 us=S at *
 generalize vl 4294967296 qs=Z at *
 generalize (4294967296:Nat)^j=P at *
 grind
theorem qcc.fin {A V:Nat} {us qs:List Nat} (h:qcc A V us qs 0):vl 4294967296 qs=A/V∧vl 4294967296 us=A%V:=by
 have h1:=h.lt
 rw[Nat.pow_zero,Nat.mul_one] at h1
 have h2:=h.val
 have hV:0<V:=by omega
 constructor
 ·rw[← h2,Nat.add_mul_div_left _ _ hV,Nat.div_eq_of_lt h1,Nat.zero_add]
 ·rw[← h2,Nat.add_mul_mod_self_left,Nat.mod_eq_of_lt h1]
end Go.Proofs.YtffghofheeleeaaGreatDoor
