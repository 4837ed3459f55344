/- A row is cloned; numbers are lessened; t -/
import Derived.Laws.Append
import Derived.OwnWalk
import Derived.WalkSpells
import Derived.Deep.LoopGhost
import Derived.Shelf.Strconv.Itoa1
import Derived.Shelf.LaysM
import Derived.Shelf.Strconv.Itoa2
import Derived.Shelf.Small.Bits
import Derived.Test.YtcgecpoedojhjaaGreatDoorProg
import Derived.Laws.Bits64b
import Derived.Lib.ItoaNum
import Derived.Deep.RegionHeld
import Derived.Laws.OwnMore
import Derived.Test.YtcgecpoedojhjaaGreatDoorKPN18
namespace Go.Proofs.YtcgecpoedojhjaaGreatDoor
open Go.Proofs.Tryz
open Go.RowKit
set_option maxHeartbeats 8000000
set_option maxRecDepth 100000
theorem ky {P:Program} {w:World} {ops:Array Oper} {rest:List Oper} {o:Oper} {a:Act} {Q:Exit→Act→World→Prop} (hgd:o.guard=none) (s x:Operand) (t u:TypeId)
  (ho:o.op=.call { callee:=.builtin .append,args:=#[s,x],argTypes:=#[t,u] }) (vs vx v':Value) (w':World) (hs:a.eval s=vs) (hx:a.eval x=vx)
  (hr:(Builtin.append_ #[t,u] o.type #[vs,vx]).run P w=.ok v' w') (h:wpList P ops Q rest (a.put o.dst v') w'):wpList P ops Q (o::rest) a w :=
 wpList_plain hgd fun _ hK=>by
  unfold Oper.wp execOp
  simp only[ho,resolve,invoke,builtin,Sem.run_bind,Sem.run_pure,Result.andThen_ok,List.map_toArray,List.map_cons,List.map_nil,hs,hx,hr]
  exact hK _ _ h
theorem zpi (b off c:Nat) (xs:List Nat) (w:World) (hv:Sl .u64 w (.slice (some ⟨b,off,none⟩) xs.length c) xs) (h0:0<xs.length) (hl:xs.length<1073741824) :
  Calls prog 120 #[.slice (some ⟨b,off,none⟩) xs.length c] w fun e w'=>∃ v',e=.returned v'∧Sl .u64 w' v' xs∧But [] w w'∧Own w.heap.size w' v'∧(∃ g c',v'=.slice (some ⟨g,0,none⟩) xs.length c'):=by
 have hnil:=fun W=>Lib.run_eql_slice_nil (P:=prog) W 101 32 (some ⟨b,off,none⟩) xs.length c 0 0 underlying101
 obtain⟨i,hi,hz,hs,hbt⟩:=ztk
 obtain⟨W0,hW0⟩:∃ W0,W0=w.alloc (.cells #[] 32):=⟨_,rfl⟩
 have hb0:But [] w W0:=by rw[hW0];exact (But.refl _ _).alloc _
 have hv0:=hv.ze hb0
 rcases hv0.open with ⟨e,-⟩|⟨-,b',off',c',e,hc,-,hcell⟩
 ·rw[e] at h0;simp at h0
 simp only[Value.slice.injEq,Option.some.injEq,Addr.mk.injEq] at e
 obtain⟨⟨rfl,rfl,-⟩,-,rfl⟩:=e
 have hr:=fun ty=>run_append_grow (P:=prog) W0 101 ty 32 i (.int .u64 0) underlying101 hi hz ⟨w.heap.size,0,none⟩ 0 0 [] (by simp) (by simp) ⟨b,off,none⟩ xs.length c (xs.map fun (x:Nat)=>Value.int .u64 (x:Int)) (by simp[hs]) (fun j v hj=>by
  obtain⟨h1,rfl⟩:=zgf xs j v hj
  rw[addr_add];exact hcell j h1) (by omega) (by omega) (growslice_fits (by omega) (by rw[hbt];omega))
 have hcg:=grownCap_ge W0 (0+xs.length) 0 32
 rw[Nat.zero_add] at hr hcg
 generalize grownCap W0 xs.length 0 32 = cg at hr hcg
 have hsz:W0.heap.size=w.heap.size+1:=by rw[hW0];simp
 rw[hW0] at hr
 have H:=hide hr
 have HW0:=hide hW0
 have HB0:=hide hb0
 have HSZ:=hide hsz
 clear hr hi hz hs hbt i hv hcell hv0 hW0 hb0 hsz
 go_enter func120,ntmps120
 go_wp2_with (at_builtin;refine ky rfl _ _ 101 101 rfl _ _ _ _ rfl rfl (za H _) ?_)
 go_ret
 rw[← za HW0]
 have es:w.heap.size+1=W0.heap.size:=(za HSZ).symm
 refine⟨.slice (some ⟨w.heap.size+1,0,none⟩) xs.length cg,rfl,?_,((za HB0).alloc _).drew,?_,⟨_,_,rfl⟩⟩
 ·rw[es]
  exact Sl.mk W0.heap.size 0 cg hcg (fun j hj=>by
   rw[Nat.zero_add,World.cell?_drew,World.cell?_alloc_new,Array.getElem?_append_left (by simp;exact hj)]
   simp[hj]) (fun _ i v hv=>by
   rw[World.cell?_drew,World.cell?_alloc_new] at hv
   have hm:=Array.mem_of_getElem? hv
   rw[Array.mem_append] at hm
   rcases hm with hm | hm
   ·simp only[List.mem_toArray,List.mem_map] at hm
    obtain⟨x,-,rfl⟩:=hm
    exact⟨_,rfl⟩
   ·unfold Builtin.zeroCells at hm
    exact⟨0,by simp at hm;grind⟩)
 ·intro b off n c e
  simp only[Value.slice.injEq,Option.some.injEq,Addr.mk.injEq] at e
  obtain⟨⟨rfl,rfl,-⟩,-,-⟩:=e
  refine⟨by omega,fun i _=>?_⟩
  rw[es]
  simp
def Apart (v1 v2:Value):Prop:=∀ b off n c b' off' n' c',v1=.slice (some ⟨b,off,none⟩) n c→v2=.slice (some ⟨b',off',none⟩) n' c'→b≠b'
structure zok (lo:Nat) (w:World) (v1 v2:Value) (X Y:Nat):Prop where
 s1:Sl .u64 w v1 (wd 18446744073709551616 X)
 s2:Sl .u64 w v2 (wd 18446744073709551616 Y)
 o1:Own lo w v1
 o2:Own lo w v2
 ap:Apart v1 v2
theorem Sl.seg {w:World} {g o c n:Nat} {xs:List Nat} (h:Sl .u64 w (.slice (some ⟨g,o,none⟩) n c) xs) (ho:∀ i,i<n→w.frozen? ⟨g,o+i,none⟩=false):Seg w g o xs:=⟨fun i hi=>by
 obtain⟨a,cap,e,-,hc,-⟩:=h
 simp only[Value.slice.injEq] at e
 obtain⟨rfl,rfl,-⟩:=e
 obtain⟨b,off,e,h2⟩:=hc i hi
 simp only[Option.some.injEq,Addr.mk.injEq] at e
 obtain⟨rfl,rfl,-⟩:=e
 exact⟨h2,ho i hi⟩,fun h0=>by
 obtain⟨a,cap,e,-,-,hi⟩:=h
 simp only[Value.slice.injEq] at e
 obtain⟨rfl,-,-⟩:=e
 exact hi _ _ rfl h0⟩
theorem zni.own {g lo:Nat} {w:World} {v:Value} (h:zni g w v) (hg:lo≤g):Own lo w v:=fun b off n c e=>by
 obtain⟨rfl,h2⟩:=h b off n c e
 exact⟨hg,h2⟩
theorem Own.but {lo:Nat} {w w':World} {v:Value} {k:IntKind} {xs:List Nat} (h:Own lo w v) (hs:Sl k w v xs) (hb:But [] w w'):Own lo w' v:=fun b off n c e=>by
 obtain⟨h1,h2⟩:=h b off n c e
 refine⟨h1,fun i hi=>?_⟩
 obtain⟨a,cap,e2,-,hc,-⟩:=hs
 rw[e] at e2
 simp only[Value.slice.injEq] at e2
 obtain⟨rfl,rfl,-⟩:=e2
 obtain⟨b',off',e3,h4⟩:=hc i hi
 simp only[Option.some.injEq,Addr.mk.injEq] at e3
 obtain⟨rfl,rfl,-⟩:=e3
 exact (hb.frozen (p:=⟨b,off+i,none⟩) (lt_of_cell h4) (by simp)).trans (h2 i hi)
theorem zok.but {lo:Nat} {w w':World} {v1 v2:Value} {X Y:Nat} (h:zok lo w v1 v2 X Y) (hb:But [] w w'):zok lo w' v1 v2 X Y :=
 ⟨h.s1.ze hb,h.s2.ze hb,h.o1.but h.s1 hb,h.o2.but h.s2 hb,h.ap⟩
theorem zpn (X R n:Nat) (hX:0<X) (hR:R < 18446744073709551616^n):(wd 18446744073709551616 (X * 18446744073709551616^n+R)).length=(wd 18446744073709551616 X).length+n:=by
 have hp:0 < 18446744073709551616^n:=Nat.pow_pos (by omega)
 have h1:(X * 18446744073709551616^n+R) / 18446744073709551616^n=X:=by
  rw[Nat.mul_comm,Nat.mul_add_div hp,Nat.div_eq_of_lt hR,Nat.add_zero]
 have h2:=ko n (X * 18446744073709551616^n+R)
 rw[h1] at h2
 have h3:(wd 18446744073709551616 X).length≠0:=fun e=>by rw[qo (by omega)] at e;omega
 omega
theorem zug (X R n:Nat) (hX:0<X) (hR:R < 18446744073709551616^n) (zs:List Nat) (hz:∀ x ∈ zs,x=0) (hl:(wd 18446744073709551616 R).length+zs.length=n):wd 18446744073709551616 R++zs++wd 18446744073709551616 X=wd 18446744073709551616 (X * 18446744073709551616^n+R):=by
 have hv0:vl 18446744073709551616 zs=0:=zbo 18446744073709551616 zs (fun j hj=>by
  have:=hz zs[j] (List.getElem_mem hj)
  rw[List.getElem?_eq_getElem hj];exact this)
 refine qbe (B:=18446744073709551616) (by omega) _ _ ?_ ?_ (qy (by omega) _) ?_
 ·rw[zpn X R n hX hR,List.length_append,List.length_append,hl,Nat.add_comm]
 ·intro x hx
  rw[List.mem_append,List.mem_append] at hx
  rcases hx with (hx | hx) | hx
  ·exact qy (by omega) _ x hx
  ·rw[hz x hx];omega
  ·exact qy (by omega) _ x hx
 ·rw[qj,qj,hv0,xh (by omega),xh (by omega),xh (by omega),List.length_append,hl,Nat.mul_zero,Nat.add_zero,Nat.mul_comm,Nat.add_comm]
theorem zwu (nx n:Nat) (h0:0<nx) (h:nx+n<2147483648):(0:Int)≤(n:Int)∧(n:Int)<((nx+n:Nat):Int)∧nx+n-n=nx∧(n:Int)<(nx:Int)+(n:Int)∧(n:Int)≤(nx:Int)+(n:Int)∧((nx:Int)==0)=false∧IntKind.i64.wrap ((nx:Int)+(n:Int))=(nx:Int)+(n:Int)∧wrap64 ((nx:Int)+(n:Int))=(nx:Int)+(n:Int):=by
 refine⟨by omega,by omega,by omega,by omega,by omega,by simp;omega,by rw[IntKind.wrap_i64];omega,by unfold wrap64;omega⟩
theorem zaf (vx vr:Value) (X R n:Nat) (w:World) (hx:Sl .u64 w vx (wd 18446744073709551616 X)) (hr:Sl .u64 w vr (wd 18446744073709551616 R)) (hR:R < 18446744073709551616^n) (hl:(wd 18446744073709551616 X).length+n<134217728) :
  Calls prog 194 #[vx,.int .i64 (n:Int),vr] w fun e w'=>∃ v',e=.returned v'∧Sl .u64 w' v' (wd 18446744073709551616 (X * 18446744073709551616^n+R))∧But [] w w'∧((X=0∧v'=vr)∨Own w.heap.size w' v'):=by
 rcases Nat.eq_zero_or_pos X with h0 | h0
 ·subst h0
  rw[qd] at hx
  have HR:=hide hr
  obtain⟨a1,c1,rfl,-,-⟩:=hx
  obtain⟨a2,c2,rfl,-,-⟩:=hr
  go_enter func194,ntmps194
  go_wp2
  go_ret
  exact⟨_,rfl,by rw[Nat.zero_mul,Nat.zero_add];exact za HR,But.refl _ _,.inl (by simp)⟩
 ·have hlr:(wd 18446744073709551616 R).length≤n:=zt (by omega) R n hR
  have hxp:0<(wd 18446744073709551616 X).length:=by rw[Nat.pos_iff_ne_zero];intro e;rw[qo (by omega)] at e;omega
  obtain⟨nx,hnx⟩:∃ nx,nx=(wd 18446744073709551616 X).length:=⟨_,rfl⟩
  have SM:=Seg.made w (nx+n) 32
  have bM:=kv w (nx+n) 32
  obtain⟨w2,hcp,HC⟩:=jr (P:=prog) (w.alloc (.cells (madeCells #[.int .u64 0] (nx+n)) 32)) 100 101 32 underlying100 l8 w.heap.size 0 (nx+n) (nx+n) vr (List.replicate (nx+n) 0) (wd 18446744073709551616 R) SM (by simp) (hr.ze bM) (by simp;omega)
  obtain⟨r1,hr1⟩:∃ r1,r1=wd 18446744073709551616 R++(List.replicate (nx+n) 0).drop (wd 18446744073709551616 R).length:=⟨_,rfl⟩
  have hr1l:r1.length=nx+n:=by rw[hr1];simp;omega
  rw[← hr1] at HC
  have b2:But [] w w2:=bM.trans (za HC).2.but (fun x hx=>by simp at hx;subst hx;exact .inr (Nat.le_refl _))
  have S2:=(za HC).1.sub n nx (by omega)
  have hsl:((r1.drop n).take nx).length=nx:=by rw[List.length_take,List.length_drop,hr1l];omega
  obtain⟨w3,hcp2,HC2⟩:=jr (P:=prog) w2 100 101 32 underlying100 l8 w.heap.size (0+n) nx nx vx ((r1.drop n).take nx) (wd 18446744073709551616 X) S2 hsl.symm (hx.ze b2) (by rw[hsl,hnx];exact Nat.le_refl _)
  have hd0:((r1.drop n).take nx).drop (wd 18446744073709551616 X).length=[]:=List.drop_eq_nil_of_le (by rw[hsl,hnx];exact Nat.le_refl _)
  rw[hd0,List.append_nil] at HC2
  have SW:=(za HC).1.whole (za HC2).2 (za HC2).1 rfl (by rw[hr1l,← hnx];omega)
  have b3:But [] w w3:=b2.trans (za HC2).2.but (fun x hx=>by simp at hx;subst hx;exact .inr (Nat.le_refl _))
  have et:r1.take n=wd 18446744073709551616 R++((List.replicate (nx+n) 0).drop (wd 18446744073709551616 R).length).take (n-(wd 18446744073709551616 R).length):=by
   rw[hr1,List.take_append,List.take_of_length_le hlr]
  have ed:r1.drop (n+(wd 18446744073709551616 X).length)=[]:=List.drop_eq_nil_of_le (by rw[hr1l,hnx];omega)
  rw[Nat.zero_add,ed,List.append_nil,et,zug X R n h0 hR _ (fun x hx=>by
   have:=List.mem_of_mem_drop (List.mem_of_mem_take hx)
   exact (List.mem_replicate.1 this).2) (by simp;omega)] at SW
  have hlen:=zpn X R n h0 hR
  have SL:=SW.sl (nx+n) (by rw[hlen,hnx];exact Nat.le_refl _)
  rw[hlen,← hnx] at SL
  have OW:Own w.heap.size w3 (.slice (some ⟨w.heap.size,0,none⟩) (nx+n) (nx+n)):=fun b off m c e=>by
   simp only[Value.slice.injEq,Option.some.injEq,Addr.mk.injEq] at e
   obtain⟨⟨rfl,rfl,-⟩,rfl,-⟩:=e
   exact⟨Nat.le_refl _,fun i hi=>(SW i (by rw[hlen,← hnx];exact hi)).2⟩
  have FIN:=hide (And.intro SL (And.intro b3 OW))
  have hlt:nx+n<2147483648:=by rw[hnx];exact Nat.lt_trans hl (by decide)
  have hmk:∀ wx,(Instr.makeSlice 100 (.int .i64 ((nx:Int)+(n:Int))) (.int .i64 ((nx:Int)+(n:Int)))).run prog wx=.ok (.slice (some ⟨wx.heap.size,0,none⟩) (nx+n) (nx+n)) (wx.alloc (.cells (madeCells #[.int .u64 0] (nx+n)) 32)):=fun wx=>by
   have h:=kz wx (nx+n) hlt
   rw[Int.natCast_add] at h
   exact h
  have hnxp:0<nx:=by rw[hnx];exact hxp
  obtain⟨i1,i2,i3,i4,i5,hn0,ew,ew2⟩:=zwu nx n hnxp hlt
  obtain⟨a1,c1,rfl,-,-⟩:=hx
  obtain⟨a2,c2,rfl,-,-⟩:=hr
  rw[← hnx] at hcp2 ⊢
  generalize (wd 18446744073709551616 R).length=nr at *
  rw[Nat.zero_add] at hcp2
  clear SM bM HC HC2 S2 hsl hd0 SW et ed SL OW b2 b3 hr1 hr1l hlen hxp hnx hnxp
  go_enter func194,ntmps194
  go_wp2
  go_ret
  exact⟨_,rfl,(za FIN).1,(za FIN).2.1,.inr (za FIN).2.2⟩
def jk (w:World) (vx:Value) (w':World) (v:Value):Prop:=∀ b off n c,v=.slice (some ⟨b,off,none⟩) n c →
 (w.heap.size≤b∧∀ i,i<n→w'.frozen? ⟨b,off+i,none⟩=false)∨∃ off0 n0 c0,vx=.slice (some ⟨b,off0,none⟩) n0 c0∧off0≤off∧off+n≤off0+n0
theorem jk.self (w:World) (v:Value) (w':World):jk w v w' v:=fun _ off n c e=>.inr ⟨off,n,c,e,Nat.le_refl _,Nat.le_refl _⟩
theorem jk.zdq {w w':World} {vx v:Value} (h:Own w.heap.size w' v):jk w vx w' v:=fun b off n c e=>.inl (h b off n c e)
theorem jk.nil (w:World) (vx:Value) (w':World) (m c:Nat):jk w vx w' (.slice none m c):=fun _ _ _ _ e=>by simp at e
theorem Sl.zqq {k:IntKind} {w:World} {v:Value} {xs:List Nat} (h:Sl k w v xs) {a:Option Addr} {n c:Nat} (e:v=.slice a n c):n=xs.length:=by
 obtain⟨a1,c1,e1,-⟩:=h
 rw[e] at e1
 exact (Value.slice.inj e1).2.1
theorem jk.but {w w1 w2:World} {vx v1:Value} {xs:List Nat} (h:jk w vx w1 v1) (hs:Sl .u64 w1 v1 xs) (hb:But [] w1 w2):jk w vx w2 v1:=fun b off n c e=>by
 rcases h b off n c e with ⟨h1,h2⟩ | h1
 ·refine .inl ⟨h1,fun i hi=>?_⟩
  have hn:=hs.zqq e
  have hl:=hs.lt (by omega) b off n c e
  rw[hb.frozen (p:=⟨b,off+i,none⟩) hl (by simp)]
  exact h2 i hi
 ·exact .inr h1
theorem jk.pre {w W w':World} {vx v:Value} (h:jk W vx w' v) (hs:w.heap.size≤W.heap.size):jk w vx w' v:=fun b off n c e=>by
 rcases h b off n c e with ⟨h1,h2⟩ | h1
 ·exact .inl ⟨Nat.le_trans hs h1,h2⟩
 ·exact .inr h1
theorem jk.trans {w w1 w2:World} {vx v1 v2:Value} {xs:List Nat} (h:jk w vx w1 v1) (hs:Sl .u64 w1 v1 xs) (hb:But [] w1 w2) (hw:w.heap.size≤w1.heap.size) (k:jk w1 v1 w2 v2):jk w vx w2 v2:=fun b off n c e=>by
 rcases k b off n c e with ⟨h1,h2⟩|⟨o0,n0,c0,e0,h3,h4⟩
 ·exact .inl ⟨Nat.le_trans hw h1,h2⟩
 ·rcases (h.but hs hb) b o0 n0 c0 e0 with ⟨h5,h6⟩|⟨o1,n1,c1,e1,h7,h8⟩
  ·refine .inl ⟨h5,fun i hi=>?_⟩
   have:=h6 (off-o0+i) (by omega)
   rwa [show o0+(off-o0+i)=off+i from by omega] at this
  ·exact .inr ⟨o1,n1,c1,e1,by omega,by omega⟩
theorem jk.own {lo:Nat} {w w':World} {vx v:Value} {xs:List Nat} (h:jk w vx w' v) (ho:Own lo w vx) (hlo:lo≤w.heap.size) (hs:Sl .u64 w vx xs) (hb:But [] w w'):Own lo w' v:=fun b off n c e=>by
 rcases h b off n c e with ⟨h1,h2⟩|⟨o0,n0,c0,e0,h3,h4⟩
 ·exact⟨Nat.le_trans hlo h1,h2⟩
 ·refine⟨(ho _ _ _ _ e0).1,fun i hi=>?_⟩
  have hn:=hs.zqq e0
  have hl:=hs.lt (by omega) b o0 n0 c0 e0
  rw[hb.frozen (p:=⟨b,off+i,none⟩) hl (by simp)]
  have:=(ho _ _ _ _ e0).2 (off-o0+i) (by omega)
  rwa [show o0+(off-o0+i)=off+i from by omega] at this
theorem zgw (v:Value) (X n:Nat) (w:World) (hv:Sl .u64 w v (wd 18446744073709551616 X)) (hl:(wd 18446744073709551616 X).length<2147483648) (hn:n<2147483648) :
  Calls prog 157 #[v,.int .i64 (n:Int)] w fun e w'=>∃ v',e=.returned v'∧Sl .u64 w v' (wd 18446744073709551616 (X % 18446744073709551616^n))∧w'=w∧jk w v w v':=by
 by_cases hle:(wd 18446744073709551616 X).length≤n
 ·have e:X % 18446744073709551616^n=X:=Nat.mod_eq_of_lt (zw (by omega) X n hle)
  rw[e]
  have HV:=hide hv
  obtain⟨a,c,rfl,-,-⟩:=hv
  clear e
  generalize (wd 18446744073709551616 X).length=l at *
  go_enter func157,ntmps157
  go_wp2
  go_ret
  exact⟨_,rfl,za HV,rfl,jk.self _ _ _⟩
 ·rcases hv.open with ⟨e,-⟩|⟨h0,b,off,c,rfl,hc,-,-⟩
  ·rw[e] at hle;simp at hle
  have ht:=qp (.slice (some ⟨b,off,none⟩) n c) ((wd 18446744073709551616 X).take n) w (hv.take n c (by omega) (by omega)) (fun x hx=>qy (by omega) X x (List.mem_of_mem_take hx)) (by rw[List.length_take];omega)
  rw[zwx] at ht
  have HT:=hide ht
  have LM:=hide (zkc n X)
  clear ht hv
  generalize (wd 18446744073709551616 X).length=l at *
  have hnl:n<l:=by omega
  have hnc:n≤c:=by omega
  go_enter func157,ntmps157
  go_wp2_with fail
  refine (za HT).mono ?_
  rintro e w1 ⟨v',rfl,h1,hw,hsb⟩
  obtain rfl:=hw.symm
  clear hw
  have HH:Hid (jk w (.slice (some ⟨b,off,none⟩) l c) w v'):=fun b1 off1 n1 c1 e1=>by
   have hn1:=h1.zqq e1
   have hlm:=za LM
   obtain⟨n',c',e'⟩:=hsb b1 off1 n1 c1 e1
   simp only[Value.slice.injEq,Option.some.injEq,Addr.mk.injEq] at e'
   obtain⟨⟨rfl,rfl,-⟩,-,-⟩:=e'
   exact .inr ⟨_,_,_,rfl,Nat.le_refl _,by omega⟩
  have H1:=hide h1
  clear h1 hsb
  go_wp2
  go_ret
  exact⟨v',rfl,za H1,rfl,za HH⟩
theorem zvu (v:Value) (X n:Nat) (w:World) (hv:Sl .u64 w v (wd 18446744073709551616 X)) (hn:n<2147483648) :
  Calls prog 159 #[v,.int .i64 (n:Int)] w fun e w'=>∃ v',e=.returned v'∧Sl .u64 w v' (wd 18446744073709551616 (X / 18446744073709551616^n))∧w'=w∧jk w v w v':=by
 by_cases hle:(wd 18446744073709551616 X).length≤n
 ·have e:X / 18446744073709551616^n=0:=Nat.div_eq_of_lt (zw (by omega) X n hle)
  rw[e,qd]
  obtain⟨a,c,rfl,-,-⟩:=hv
  clear e
  generalize (wd 18446744073709551616 X).length=l at *
  go_enter func159,ntmps159
  go_wp2
  go_ret
  exact⟨_,rfl,Sl.nil _ _,rfl,jk.nil _ _ _ _ _⟩
 ·rcases hv.open with ⟨e,-⟩|⟨h0,b,off,c,rfl,hc,-,-⟩
  ·rw[e] at hle;simp at hle
  have HR:=hide (hv.drop n ((wd 18446744073709551616 X).length-n) (c-n) rfl (by omega))
  rw[zpq] at HR
  clear hv
  generalize (wd 18446744073709551616 X).length=l at *
  have hnl:n<l:=by omega
  have hnc:n<c:=by omega
  go_enter func159,ntmps159
  go_wp2
  go_ret
  refine⟨_,rfl,za HR,rfl,fun b1 off1 n1 c1 e1=>?_⟩
  simp only at e1
  obtain⟨⟨rfl,rfl,-⟩,rfl,-⟩:=e1
  exact .inr ⟨_,_,_,rfl,by omega,by omega⟩
theorem zvr (va vb:Value) (xs ys:List Nat) (w:World) (ha:Sl .u64 w va xs) (hb:Sl .u64 w vb ys) (mx:∀ x ∈ xs,x < 18446744073709551616) (my:∀ x ∈ ys,x < 18446744073709551616) (hle:ys.length≤xs.length) (h0:0<ys.length) (hl:xs.length<1073741824) (hv:vl 18446744073709551616 ys≤vl 18446744073709551616 xs) :
  Calls prog 160 #[va,vb] w fun e w'=>∃ v',e=.returned v'∧Sl .u64 w' v' (wd 18446744073709551616 (vl 18446744073709551616 xs-vl 18446744073709551616 ys))∧But [] w w'∧Own w.heap.size w' v':=by
 obtain⟨b1,o1,c1,rfl,hc1⟩:∃ b o c,va=.slice (some ⟨b,o,none⟩) xs.length c∧xs.length≤c:=by
  rcases ha.open with ⟨rfl,-⟩|⟨-,b,o,c,e,h,-⟩
  ·simp only[List.length_nil] at hle;omega
  ·exact⟨b,o,c,e,h⟩
 obtain⟨b2,o2,c2,rfl,hc2⟩:∃ b o c,vb=.slice (some ⟨b,o,none⟩) ys.length c∧ys.length≤c:=by
  rcases hb.open with ⟨rfl,-⟩|⟨-,b,o,c,e,h,-⟩
  ·simp at h0
  ·exact⟨b,o,c,e,h⟩
 have n0:((ys.length:Int)==0)=false:=beq_eq_false_iff_ne.2 (by omega)
 have hmk:=fun wx=>kz wx xs.length (by omega)
 have hof:Off w.heap.size (.slice (some ⟨b2,o2,none⟩) ys.length c2):=nk hb h0 _ (Nat.le_refl _)
 obtain⟨w2,hcp,HC⟩:=jr (P:=prog) (w.alloc (.cells (madeCells #[.int .u64 0] xs.length) 32)) 100 101 32 underlying100 l8 w.heap.size 0 xs.length xs.length _ (List.replicate xs.length 0) xs (Seg.made _ _ _) (by simp) (ha.ze (kv _ _ _)) (by simp)
 have e1:xs++(List.replicate xs.length 0).drop xs.length=xs:=by simp
 rw[e1] at HC
 have hB2:Hid (But [] w w2):=((kv w xs.length 32).trans (za HC).2.but (fun x hx=>by simp at hx;subst hx;exact .inr (Nat.le_refl _)))
 have hsub:=zhs w.heap.size 0 xs.length xs ys (.slice (some ⟨b2,o2,none⟩) ys.length c2) w2 (za HC).1 (by omega) (hb.ze (za hB2)) (fun _=>hof) mx my (by omega) (by omega)
 have HSUB:=hide hsub
 have HV:=hide hv
 clear ha hb mx my hof hsub HC e1 hv
 go_enter func160,ntmps160
 go_wp2_with fail
 refine (za HSUB).mono ?_
 rintro e w3 ⟨c,rs',rfl,hc,hlr,hmr,hv,hsg,hpt⟩
 have hV:=zkb xs ys rs' c hmr (za HV) hlr hv
 have HV:=hide hV
 clear hV hv
 have hB3:Hid (But [] w w3):=(za hB2).trans hpt.but (fun x hx=>by simp at hx;subst hx;exact .inr (Nat.le_refl _))
 have hsl:=hsg.sl xs.length (by omega)
 rw[hlr] at hsl
 have HS:=hide hsl
 have SG:=hide hsg
 have LW:Hid ((wd 18446744073709551616 (vl 18446744073709551616 rs')).length≤rs'.length):=zt (by omega) _ _ (tu (by omega) rs' hmr)
 clear hsl hsg hpt HSUB
 go_wp2_with fail
 refine (qp _ rs' _ (za HS) hmr (by omega)).mono ?_
 rintro e w4 ⟨v',rfl,hs4,hw4,hsb⟩
 obtain rfl:=hw4.symm
 clear hw4
 have OW:=hide (zqi (za SG) hsb hs4 (za LW) (Nat.le_refl _))
 have H4:=hide hs4
 clear hs4 hsb
 go_wp2
 go_ret
 exact⟨v',rfl,by rw[← za HV];exact za H4,za hB3,za OW⟩
theorem zzy (va vb:Value) (m n:Nat) (w:World) (ha:Sl .u64 w va (wd 18446744073709551616 m)) (hb:Sl .u64 w vb (wd 18446744073709551616 n)) (hla:(wd 18446744073709551616 m).length<1073741824) (hmn:n≤m) :
  Calls prog 160 #[va,vb] w fun e w'=>∃ v',e=.returned v'∧Sl .u64 w' v' (wd 18446744073709551616 (m-n))∧But [] w w'∧((n=0∧v'=va)∨Own w.heap.size w' v'):=by
 rcases Nat.eq_zero_or_pos n with h0 | h0
 ·subst h0
  rw[qd] at hb
  have HR:=hide ha
  obtain⟨a1,c1,rfl,-,-⟩:=ha
  obtain⟨a2,c2,rfl,-,-⟩:=hb
  go_enter func160,ntmps160
  go_wp2
  go_ret
  exact⟨_,rfl,za HR,But.refl _ _,.inl (by simp)⟩
 ·have em:=xh (B:=18446744073709551616) (by omega) m
  have en:=xh (B:=18446744073709551616) (by omega) n
  have hl:(wd 18446744073709551616 n).length≤(wd 18446744073709551616 m).length:=zt (by omega) n _ (Nat.lt_of_le_of_lt hmn (zw (by omega) m _ (Nat.le_refl _)))
  have hp:0<(wd 18446744073709551616 n).length:=by
   rw[Nat.pos_iff_ne_zero];intro h;rw[qo (by omega)] at h;omega
  have:=zvr va vb _ _ w ha hb (qy (by omega) m) (qy (by omega) n) hl hp hla (by rw[em,en];exact hmn)
  rw[em,en] at this
  exact this.mono fun e w' ⟨v',h1,h2,h3,h4⟩=>⟨v',h1,h2,h3,.inr h4⟩
theorem zlb {X Y q r:Nat} (h:X=q*Y+r) (hr:r<Y):X/Y=q∧X%Y=r:=by
 subst h
 have hY:0<Y:=by omega
 constructor
 ·rw[Nat.mul_comm,Nat.mul_add_div hY,Nat.div_eq_of_lt hr,Nat.add_zero]
 ·rw[Nat.mul_comm,Nat.mul_add_mod,Nat.mod_eq_of_lt hr]
structure zay (X Y T q m:Nat):Prop where
 eq:X+T=q*Y+m
 lt:m<T+Y
theorem zay.start (X Y P:Nat) (hP:0<P) (hY:0<Y/P):zay X Y (X/P/(Y/P)*(Y%P)) (X/P/(Y/P)) (X/P%(Y/P)*P+X%P):=by
 obtain⟨YH,hYH⟩:∃ YH,YH=Y/P:=⟨_,rfl⟩
 obtain⟨YL,hYL⟩:∃ YL,YL=Y%P:=⟨_,rfl⟩
 obtain⟨XH,hXH⟩:∃ XH,XH=X/P:=⟨_,rfl⟩
 obtain⟨XL,hXL⟩:∃ XL,XL=X%P:=⟨_,rfl⟩
 have e1:Y=P*YH+YL:=by rw[hYH,hYL];exact (Nat.div_add_mod Y P).symm
 have e2:X=P*XH+XL:=by rw[hXH,hXL];exact (Nat.div_add_mod X P).symm
 have l1:XL<P:=by rw[hXL];exact Nat.mod_lt _ hP
 rw[← hYH,← hYL,← hXH,← hXL]
 rw[← hYH] at hY
 have e3:=Nat.div_add_mod XH YH
 have l2:=Nat.mod_lt XH hY
 generalize XH/YH=q at *
 generalize XH%YH=r at *
 constructor
 ·rw[e2,e1,← e3];grind
 ·have h1:(r+1)*P≤YH*P:=Nat.mul_le_mul_right _ l2
  rw[e1]
  have h2:(r+1)*P=r*P+P:=Nat.succ_mul _ _
  have h3:YH*P=P*YH:=Nat.mul_comm _ _
  omega
theorem zay.pos {X Y T q m:Nat} (h:zay X Y T q m) (hm:m<T):0<q:=by
 rcases Nat.eq_zero_or_pos q with h0 | h0
 ·have:=h.eq
  rw[h0,Nat.zero_mul] at this
  omega
 ·exact h0
theorem zay.next {X Y T q m:Nat} (h:zay X Y T q m) (hm:m<T):zay X Y T (q-1) (m+Y):=by
 have hq:=h.pos hm
 obtain⟨p,rfl⟩:∃ p,q=p+1:=⟨q-1,by omega⟩
 have he:=h.eq
 rw[Nat.succ_mul] at he
 exact⟨by rw[Nat.add_sub_cancel];omega,by omega⟩
theorem zay.fin {X Y T q m:Nat} (h:zay X Y T q m) (hm:T≤m):X/Y=q∧X%Y=m-T:=by
 have he:=h.eq
 have hl:=h.lt
 exact zlb (by omega) (by omega)
theorem halves (X Y P h r l s:Nat) (h1:X/P=h*Y+r) (h2:r*P+X%P=l*Y+s) (hs:s<Y):X/Y=h*P+l∧X%Y=s:=by
 refine zlb ?_ hs
 have e:=Nat.div_add_mod X P
 rw[h1] at e
 grind
def dh (X Y:Nat):Prop:=∀ (vx vy:Value) (w:World),Sl .u64 w vx (wd 18446744073709551616 X)→Sl .u64 w vy (wd 18446744073709551616 Y) →
 Calls prog 146 #[vx,vy] w fun e w'=>∃ v1 v2,e=.returned (.tuple #[v1,v2])∧Sl .u64 w' v1 (wd 18446744073709551616 (X/Y))∧Sl .u64 w' v2 (wd 18446744073709551616 (X%Y))∧But [] w w'∧jk w vx w' v2
structure zbk (w wr:World) (X Y T:Nat) (vx vy vt:Value) (vq vm:Value) (k Q M:Nat):Prop where
 q:Sl .u64 wr vq (wd 18446744073709551616 Q)
 m:Sl .u64 wr vm (wd 18446744073709551616 M)
 y:Sl .u64 wr vy (wd 18446744073709551616 Y)
 t:Sl .u64 wr vt (wd 18446744073709551616 T)
 inv:zay X Y T Q M
 k:T-M=k
 but:But [] w wr
 heir:T=0→jk w vx wr vm
theorem zbk.len {w wr:World} {X Y T:Nat} {vx vy vt vq vm:Value} {k Q M n:Nat} (h:zbk w wr X Y T vx vy vt vq vm k Q M) (hT:T < 18446744073709551616^n) (hY:Y < 18446744073709551616^n):(wd 18446744073709551616 M).length≤n+1 :=
 Nat.le_trans (zu (Nat.le_of_lt h.inv.lt)) (oz T Y n hT hY)
theorem zbk.quh {w wr:World} {X Y T:Nat} {vx vy vt vq vm:Value} {k Q M n:Nat} (h:zbk w wr X Y T vx vy vt vq vm k Q M) (hY0:0<Y) (hT:T < 18446744073709551616^n) (hX:X < 18446744073709551616^n):(wd 18446744073709551616 Q).length≤n+1:=by
 have h3:Q≤X+T:=by
  rw[h.inv.eq]
  exact Nat.le_trans (Nat.le_mul_of_pos_right Q hY0) (Nat.le_add_right _ _)
 exact Nat.le_trans (zu h3) (oz X T n hX hT)
theorem zby (vx vy:Value) (X Y n:Nat) (w:World) (hx:Sl .u64 w vx (wd 18446744073709551616 X)) (hy:Sl .u64 w vy (wd 18446744073709551616 Y)) (hY:0<Y / 18446744073709551616^n) (hD:dh (X / 18446744073709551616^n) (Y / 18446744073709551616^n)) (hl:(wd 18446744073709551616 X).length+(wd 18446744073709551616 Y).length+n<33554432) :
  Calls prog 195 #[vx,vy,.int .i64 (n:Int)] w fun e w'=>∃ v1 v2,e=.returned (.tuple #[v1,v2])∧Sl .u64 w' v1 (wd 18446744073709551616 (X/Y))∧Sl .u64 w' v2 (wd 18446744073709551616 (X%Y))∧But [] w w'∧jk w vx w' v2:=by
 have hP:0 < 18446744073709551616^n:=Nat.pow_pos (by omega)
 have hY0:0<Y:=by
  rcases Nat.eq_zero_or_pos Y with h | h
  ·rw[h,Nat.zero_div] at hY;omega
  ·exact h
 have ST:=zay.start X Y (18446744073709551616^n) hP hY
 obtain⟨q0,hq0⟩:∃ q0,q0=X / 18446744073709551616^n/(Y / 18446744073709551616^n):=⟨_,rfl⟩
 obtain⟨s0,hs0⟩:∃ s0,s0=X / 18446744073709551616^n%(Y / 18446744073709551616^n):=⟨_,rfl⟩
 obtain⟨T,hT⟩:∃ T,T=q0*(Y % 18446744073709551616^n):=⟨_,rfl⟩
 rw[← hq0,← hs0,← hT] at ST
 have HX1:=hide (nu vx X n w hx (by omega) (by omega))
 have HY1:=hide (nu vy Y n w hy (by omega) (by omega))
 have ql:(wd 18446744073709551616 q0).length≤(wd 18446744073709551616 X).length:=zu (by rw[hq0];exact Nat.le_trans (Nat.div_le_self _ _) (Nat.div_le_self _ _))
 have yl:(wd 18446744073709551616 (Y % 18446744073709551616^n)).length≤(wd 18446744073709551616 Y).length:=zrs n Y
 have sl:(wd 18446744073709551616 s0).length≤(wd 18446744073709551616 Y).length:=zu (by rw[hs0];exact Nat.le_trans (Nat.le_of_lt (Nat.mod_lt _ hY)) (Nat.div_le_self _ _))
 have tl:(wd 18446744073709551616 T).length≤(wd 18446744073709551616 X).length+(wd 18446744073709551616 Y).length:=by
  have:=ja q0 (Y % 18446744073709551616^n)
  rw[hT];omega
 have DV:Hid (∀ W v1 v2,Sl .u64 W v1 (wd 18446744073709551616 (X / 18446744073709551616^n))→Sl .u64 W v2 (wd 18446744073709551616 (Y / 18446744073709551616^n))→Calls prog 146 #[v1,v2] W fun e w'=>∃ v3 v4,e=.returned (.tuple #[v3,v4])∧Sl .u64 w' v3 (wd 18446744073709551616 q0)∧Sl .u64 w' v4 (wd 18446744073709551616 s0)∧But [] W w'):=by
  rw[hq0,hs0];exact fun W v1 v2 h1 h2=>(hD v1 v2 W h1 h2).mono fun e w' ⟨a,b,h3,h4,h5,h6,_⟩=>⟨a,b,h3,h4,h5,h6⟩
 have LX:=hide (fun W (h:Sl .u64 W vx (wd 18446744073709551616 X))=>zgw vx X n W h (by omega) (by omega))
 have LY:=hide (fun W (h:Sl .u64 W vy (wd 18446744073709551616 Y))=>zci vy Y n W h (by omega) (by omega))
 have AB:=hide (fun W v1 v2 (h1:Sl .u64 W v1 (wd 18446744073709551616 s0)) (h2:Sl .u64 W v2 (wd 18446744073709551616 (X % 18446744073709551616^n)))=>zaf v1 v2 s0 (X % 18446744073709551616^n) n W h1 h2 (Nat.mod_lt _ hP) (by omega))
 have MU:Hid (∀ W v1 v2,Sl .u64 W v1 (wd 18446744073709551616 q0)→Sl .u64 W v2 (wd 18446744073709551616 (Y % 18446744073709551616^n))→Calls prog 93 #[v1,v2] W fun e w'=>∃ v',e=.returned v'∧Sl .u64 w' v' (wd 18446744073709551616 T)∧But [] W w'):=fun W v1 v2 h1 h2=>by
  rw[hT]
  exact (jh v1 v2 q0 _ W h1 h2 (by omega)).mono fun e w' ⟨v',he,hv,hb,_⟩=>⟨v',he,hv,hb⟩
 have HX:=hide hx
 have HY:=hide hy
 have HS:=hide ST
 have pw:∀ Z l,(wd 18446744073709551616 Z).length≤l→l≤(wd 18446744073709551616 X).length+(wd 18446744073709551616 Y).length→Z < 18446744073709551616^((wd 18446744073709551616 X).length+(wd 18446744073709551616 Y).length):=fun Z l h1 h2=>Nat.lt_of_lt_of_le (zw (by omega) Z l h1) (Nat.pow_le_pow_right (by omega) h2)
 have HL:=hide (And.intro (pw T _ tl (Nat.le_refl _)) (And.intro (pw X _ (Nat.le_refl _) (by omega)) (And.intro (pw Y _ (Nat.le_refl _) (by omega)) (And.intro hl hY0))))
 obtain⟨M0,hM0⟩:∃ M0,M0=s0 * 18446744073709551616^n+X % 18446744073709551616^n:=⟨_,rfl⟩
 rw[← hM0] at AB HS
 obtain⟨a1,c1,rfl,-,-⟩:=hx
 obtain⟨a2,c2,rfl,-,-⟩:=hy
 clear hP hY hD ST hq0 hs0 hT ql yl sl tl hM0 hl hY0 pw
 generalize (wd 18446744073709551616 X).length=nx at *
 generalize (wd 18446744073709551616 Y).length=ny at *
 go_enter func195,ntmps195
 go_wp2_with fail
 refine (za HX1).mono ?_
 rintro e1 w1 ⟨v1,rfl,hv1,hw⟩
 obtain rfl:=hw.symm
 clear hw
 have HV1:=hide hv1
 clear hv1
 go_wp2_with fail
 refine (za HY1).mono ?_
 rintro e2 w2 ⟨v2,rfl,hv2,hw⟩
 obtain rfl:=hw.symm
 clear hw
 have HV2:=hide hv2
 clear hv2
 go_wp2_with fail
 refine (za DV _ _ _ (za HV1) (za HV2)).mono ?_
 rintro e3 w3 ⟨v3,v4,rfl,hv3,hv4,hb3⟩
 have B3:=hide hb3
 have HV3:=hide hv3
 have HV4:=hide hv4
 clear hb3 hv3 hv4 DV HX1 HY1
 go_wp2_with fail
 refine (za LX _ ((za HX).ze (za B3))).mono ?_
 rintro e4 w4 ⟨v5,rfl,hv5,hw,he5⟩
 obtain rfl:=hw.symm
 clear hw
 have HV5:=hide hv5
 have HE5:Hid (jk w (.slice a1 nx c1) _ v5):=he5.pre (za B3).size
 clear hv5 he5 LX
 go_wp2_with fail
 refine (za AB _ _ _ (za HV4) (za HV5)).mono ?_
 rintro e5 w5 ⟨v6,rfl,hv6,hb5,hp5⟩
 have HV6:=hide hv6
 have HE6:Hid (jk w (.slice a1 nx c1) w5 v6):=by
  rcases hp5 with ⟨-,rfl⟩ | ho
  ·exact (za HE5).but (za HV5) hb5
  ·exact (jk.zdq ho).pre (za B3).size
 have HV3':=hide ((za HV3).ze hb5)
 have B5:Hid (But [] _ w5):=(za B3).trans' hb5
 have HY5:=hide ((za HY).ze (za B5))
 clear hv6 hb5 hp5 AB HV1 HV2 HV3 HV4 HV5 B3 HX HE5
 go_wp2_with fail
 refine (za LY _ (za HY5)).mono ?_
 rintro e6 w6 ⟨v7,rfl,hv7,hw⟩
 obtain rfl:=hw.symm
 clear hw
 have HV7:=hide hv7
 clear hv7 LY
 go_wp2_with fail
 refine (za MU _ _ _ (za HV3') (za HV7)).mono ?_
 rintro e7 w7 ⟨v8,rfl,hv8,hb7⟩
 have I0:=hide (zbk.mk ((za HV3').ze hb7) ((za HV6).ze hb7) ((za HY5).ze hb7) hv8 (za HS) rfl ((za B5).trans' hb7) (fun _=>(za HE6).but (za HV6) hb7))
 clear HE6 hv8 hb7 MU HV3' HV6 HV7 HY5 B5 HY HS
 go_wp2_with fail
 go_loopg [8,10] (T-M0) (fun k vq vm wr=>Hid (∃ Q M,zbk w wr X Y T (.slice a1 nx c1) (.slice a2 ny c2) v8 vq vm k Q M))
 case atStart=>exact⟨q0,M0,za I0⟩
 case round =>
  clear I0
  obtain⟨Q,M,I⟩:=za hrel
  clear hrel
  obtain⟨pT,pX,pY,hl,hY0⟩:=za HL
  have ml:=I.len pT pY
  have qll:=I.quh hY0 pT pX
  have tl:(wd 18446744073709551616 T).length≤nx+ny:=zt (by omega) _ _ pT
  have yl:(wd 18446744073709551616 Y).length≤nx+ny:=zt (by omega) _ _ pY
  have CM:=hide (ve _ _ M T wr I.m I.t (by omega) (by omega))
  have HI:=hide I
  rcases Nat.lt_or_ge M T with hlt | hge
  ·rw[si hlt] at CM
   have hq1:=I.inv.pos hlt
   have NX:=hide (I.inv.next hlt)
   have SB:=hide (fun W v1 v2 (h1:Sl .u64 W v1 (wd 18446744073709551616 Q)) (h2:Sl .u64 W v2 (wd 18446744073709551616 1))=>zar v1 v2 Q 1 W h1 h2 (by omega) hq1)
   have AD:=hide (fun W v1 v2 (h1:Sl .u64 W v1 (wd 18446744073709551616 M)) (h2:Sl .u64 W v2 (wd 18446744073709551616 Y))=>mg v1 v2 M Y W h1 h2 (by omega) (by omega))
   have MS:Hid (T-(M+Y)<gk):=by
    have:=I.k
    show _<_
    omega
   clear I ml qll tl yl pT pX pY hl hq1
   go_wp2_with fail
   refine (za CM).mono ?_
   rintro e8 w8 ⟨rfl,q,rfl⟩
   have bq:But [] wr (wr.drewN q):=(But.refl _ _).drewN q
   have J8:=hide bq
   clear bq CM
   go_wp2_with fail
   refine (jo 1 (by omega) _).mono ?_
   rintro e9 w9 ⟨v9,rfl,hv9,hb9,-⟩
   have J9:Hid (But [] wr w9):=(za J8).trans' hb9
   have HV9:=hide hv9
   clear hv9 hb9 J8
   go_wp2_with fail
   refine (za SB _ _ _ ((za HI).q.ze (za J9)) (za HV9)).mono ?_
   rintro e10 w10 ⟨v10,rfl,hv10,hb10⟩
   have J10:Hid (But [] wr w10):=(za J9).trans' hb10
   have HV10:=hide hv10
   clear hv10 hb10 J9 HV9 SB
   go_wp2_with fail
   refine (za AD _ _ _ ((za HI).m.ze (za J10)) ((za HI).y.ze (za J10))).mono ?_
   rintro e11 w11 ⟨v11,rfl,hv11,hb11⟩
   have J11:=(za J10).trans' hb11
   have R:Hid (zbk w w11 X Y T (.slice a1 nx c1) (.slice a2 ny c2) v8 v10 v11 (T-(M+Y)) (Q-1) (M+Y)):=hide (zbk.mk ((za HV10).ze hb11) hv11 ((za HI).y.ze J11) ((za HI).t.ze J11) (za NX) rfl ((za HI).but.trans' J11) (fun h0=>absurd h0 (by omega)))
   clear hv11 hb11 J11 J10 HV10 AD NX HI
   go_wp2
   go_roundg (T-(M+Y))
   case measure=>exact za MS
   case rel=>exact⟨_,_,za R⟩
  ·have hc0:=zel hge
   generalize q8 M T=r at *
   have hr:decide (r<0)=false:=by simp;omega
   have hr':¬ r<0:=by omega
   obtain⟨f1,f2⟩:=I.inv.fin hge
   have FE:=hide (And.intro f1 f2)
   have SB:=hide (fun W v1 v2 (h1:Sl .u64 W v1 (wd 18446744073709551616 M)) (h2:Sl .u64 W v2 (wd 18446744073709551616 T))=>zzy v1 v2 M T W h1 h2 (by omega) hge)
   clear I ml qll tl yl pT pX pY hl f1 f2
   go_wp2_with fail
   refine (za CM).mono ?_
   rintro e8 w8 ⟨rfl,q,rfl⟩
   have J8:Hid (But [] wr (wr.drewN q)):=(But.refl _ _).drewN q
   clear CM
   go_wp2_with fail
   refine (za SB _ _ _ ((za HI).m.ze (za J8)) ((za HI).t.ze (za J8))).mono ?_
   rintro e9 w9 ⟨v9,rfl,hv9,hb9,hp9⟩
   have J9:=(za J8).trans' hb9
   have HE:jk w (.slice a1 nx c1) w9 v9:=by
    rcases hp9 with ⟨hT0,rfl⟩ | ho
    ·exact ((za HI).heir hT0).but (za HI).m J9
    ·exact (jk.zdq ho).pre ((za HI).but.trans' (za J8)).size
   have FIN:=hide (And.intro ((za HI).q.ze J9) (And.intro hv9 (And.intro ((za HI).but.trans' J9) HE)))
   clear hv9 hb9 hp9 HE J9 J8 SB HI
   go_wp2
   go_ret2
   exact⟨_,_,rfl,by rw[(za FE).1];exact (za FIN).1,by rw[(za FE).2];exact (za FIN).2.1,(za FIN).2.2⟩
theorem zhl (vx vy:Value) (X Y n:Nat) (w:World) (hx:Sl .u64 w vx (wd 18446744073709551616 X)) (hy:Sl .u64 w vy (wd 18446744073709551616 Y)) (hY:0<Y / 18446744073709551616^n) (hD1:dh (X / 18446744073709551616^n / 18446744073709551616^n) (Y / 18446744073709551616^n)) (hD2:dh (X / 18446744073709551616^n%Y) (Y / 18446744073709551616^n)) (hl:(wd 18446744073709551616 X).length+(wd 18446744073709551616 Y).length+n<8388608) :
  Calls prog 179 #[vx,vy,.int .i64 (n:Int)] w fun e w'=>∃ v1 v2,e=.returned (.tuple #[v1,v2])∧Sl .u64 w' v1 (wd 18446744073709551616 (X/Y))∧Sl .u64 w' v2 (wd 18446744073709551616 (X%Y))∧But [] w w'∧jk w vx w' v2:=by
 have hP:0 < 18446744073709551616^n:=Nat.pow_pos (by omega)
 have hY0:0<Y:=by
  rcases Nat.eq_zero_or_pos Y with h | h
  ·rw[h,Nat.zero_div] at hY;omega
  ·exact h
 obtain⟨h0,hh0⟩:∃ h0,h0=X / 18446744073709551616^n/Y:=⟨_,rfl⟩
 obtain⟨r0,hr0⟩:∃ r0,r0=X / 18446744073709551616^n%Y:=⟨_,rfl⟩
 obtain⟨Z,hZ⟩:∃ Z,Z=r0 * 18446744073709551616^n+X % 18446744073709551616^n:=⟨_,rfl⟩
 have e1:X / 18446744073709551616^n=h0*Y+r0:=by rw[hh0,hr0,Nat.mul_comm];exact (Nat.div_add_mod _ _).symm
 have e2:r0 * 18446744073709551616^n+X % 18446744073709551616^n=Z/Y*Y+Z%Y:=by rw[← hZ,Nat.mul_comm];exact (Nat.div_add_mod _ _).symm
 obtain⟨f1,f2⟩:=halves X Y (18446744073709551616^n) h0 r0 (Z/Y) (Z%Y) e1 e2 (Nat.mod_lt _ hY0)
 have hZP:Z / 18446744073709551616^n=r0:=by rw[hZ,Nat.mul_comm,Nat.mul_add_div hP,Nat.div_eq_of_lt (Nat.mod_lt _ hP),Nat.add_zero]
 have rl:(wd 18446744073709551616 r0).length≤(wd 18446744073709551616 Y).length:=zu (by rw[hr0];exact Nat.le_of_lt (Nat.mod_lt _ hY0))
 have hl1:(wd 18446744073709551616 (X / 18446744073709551616^n)).length≤(wd 18446744073709551616 X).length:=zu (Nat.div_le_self _ _)
 have zl:(wd 18446744073709551616 Z).length≤(wd 18446744073709551616 Y).length+n:=by
  have:=ko n Z
  rw[hZP] at this
  omega
 have hhl:(wd 18446744073709551616 h0).length≤(wd 18446744073709551616 X).length:=zu (by rw[hh0];exact Nat.le_trans (Nat.div_le_self _ _) (Nat.div_le_self _ _))
 have hll:(wd 18446744073709551616 (Z/Y)).length≤(wd 18446744073709551616 Y).length+n:=Nat.le_trans (zu (Nat.div_le_self _ _)) zl
 rw[← hr0] at hD2
 have HI:=hide (nu vx X n w hx (by omega) (by omega))
 have DM1:Hid (∀ W v,Sl .u64 W v (wd 18446744073709551616 (X / 18446744073709551616^n))→Sl .u64 W vy (wd 18446744073709551616 Y)→Calls prog 195 #[v,vy,.int .i64 (n:Int)] W fun e w'=>∃ v1 v2,e=.returned (.tuple #[v1,v2])∧Sl .u64 w' v1 (wd 18446744073709551616 h0)∧Sl .u64 w' v2 (wd 18446744073709551616 r0)∧But [] W w'):=fun W v h1 h2=>by
  rw[hh0,hr0]
  exact (zby v vy _ Y n W h1 h2 hY hD1 (by omega)).mono fun e w' ⟨a,b,h3,h4,h5,h6,_⟩=>⟨a,b,h3,h4,h5,h6⟩
 have LX:=hide (fun W (h:Sl .u64 W vx (wd 18446744073709551616 X))=>zgw vx X n W h (by omega) (by omega))
 have AB:Hid (∀ W v1 v2,Sl .u64 W v1 (wd 18446744073709551616 r0)→Sl .u64 W v2 (wd 18446744073709551616 (X % 18446744073709551616^n))→Calls prog 194 #[v1,.int .i64 (n:Int),v2] W fun e w'=>∃ v',e=.returned v'∧Sl .u64 w' v' (wd 18446744073709551616 Z)∧But [] W w'∧(v'=v2∨Own W.heap.size w' v')):=fun W v1 v2 h1 h2=>by
  rw[hZ]
  exact (zaf v1 v2 r0 _ n W h1 h2 (Nat.mod_lt _ hP) (by omega)).mono fun e w' ⟨v',he,hv,hb,hp⟩=>⟨v',he,hv,hb,hp.elim (fun h=>.inl h.2) .inr⟩
 have DM2:Hid (∀ W v,Sl .u64 W v (wd 18446744073709551616 Z)→Sl .u64 W vy (wd 18446744073709551616 Y)→Calls prog 195 #[v,vy,.int .i64 (n:Int)] W fun e w'=>∃ v1 v2,e=.returned (.tuple #[v1,v2])∧Sl .u64 w' v1 (wd 18446744073709551616 (Z/Y))∧Sl .u64 w' v2 (wd 18446744073709551616 (Z%Y))∧But [] W w'∧jk W v w' v2):=fun W v h1 h2=>zby v vy Z Y n W h1 h2 hY (by rw[hZP];exact hD2) (by omega)
 have AH:Hid (∀ W v1,Sl .u64 W v1 (wd 18446744073709551616 h0)→Calls prog 194 #[v1,.int .i64 (n:Int),.slice none 0 0] W fun e w'=>∃ v',e=.returned v'∧Sl .u64 w' v' (wd 18446744073709551616 (h0 * 18446744073709551616^n))∧But [] W w'):=fun W v1 h1=>by
  refine (zaf v1 (.slice none 0 0) h0 0 n W h1 (by rw[qd];exact Sl.nil _ _) hP (by omega)).mono fun e w' ⟨v',he,hv,hb,_⟩=>⟨v',he,?_,hb⟩
  rw[Nat.add_zero] at hv
  exact hv
 have ahl:(wd 18446744073709551616 (h0 * 18446744073709551616^n)).length≤(wd 18446744073709551616 X).length+(n+1):=by
  have h1:=ja h0 (18446744073709551616^n)
  have h2:(wd 18446744073709551616 (18446744073709551616^n)).length≤n+1:=zt (by omega) _ _ (Nat.pow_lt_pow_right (by omega) (by omega))
  omega
 have AD:Hid (∀ W v1 v2,Sl .u64 W v1 (wd 18446744073709551616 (h0 * 18446744073709551616^n))→Sl .u64 W v2 (wd 18446744073709551616 (Z/Y))→Calls prog 151 #[v1,v2] W fun e w'=>∃ v',e=.returned v'∧Sl .u64 w' v' (wd 18446744073709551616 (X/Y))∧But [] W w'):=fun W v1 v2 h1 h2=>by
  rw[f1]
  exact mg v1 v2 _ _ W h1 h2 (by omega) (by omega)
 have HX:=hide hx
 have HY:=hide hy
 have FE:=hide f2
 obtain⟨a1,c1,rfl,-,-⟩:=hx
 obtain⟨a2,c2,rfl,-,-⟩:=hy
 clear hP hY hD1 hD2 hh0 hr0 hZ e1 e2 f1 f2 hZP rl hl1 zl hhl hll ahl hl hY0
 generalize (wd 18446744073709551616 X).length=nx at *
 generalize (wd 18446744073709551616 Y).length=ny at *
 generalize h0 * 18446744073709551616^n=H at *
 go_enter func179,ntmps179
 go_wp2_with fail
 refine (za HI).mono ?_
 rintro e1 w1 ⟨v1,rfl,hv1,hw⟩
 obtain rfl:=hw.symm
 clear hw
 have HV1:=hide hv1
 clear hv1 HI
 go_wp2_with fail
 refine (za DM1 _ _ (za HV1) (za HY)).mono ?_
 rintro e2 w2 ⟨v2,v3,rfl,hv2,hv3,hb2⟩
 have HV2:=hide hv2
 have HV3:=hide hv3
 have B2:=hide hb2
 clear hv2 hv3 hb2 HV1 DM1
 go_wp2_with fail
 refine (za LX _ ((za HX).ze (za B2))).mono ?_
 rintro e3 w3 ⟨v4,rfl,hv4,hw,he4⟩
 obtain rfl:=hw.symm
 clear hw
 have HV4:=hide hv4
 have HE4:Hid (jk w (.slice a1 nx c1) _ v4):=he4.pre (za B2).size
 clear hv4 he4 LX
 go_wp2_with fail
 refine (za AB _ _ _ (za HV3) (za HV4)).mono ?_
 rintro e4 w4 ⟨v5,rfl,hv5,hb4,hp4⟩
 have HV5:=hide hv5
 have HE5:Hid (jk w (.slice a1 nx c1) w4 v5):=by
  rcases hp4 with rfl | ho
  ·exact (za HE4).but (za HV4) hb4
  ·exact (jk.zdq ho).pre (za B2).size
 have B4:=hide ((za B2).trans' hb4)
 have HV2':=hide ((za HV2).ze hb4)
 clear hv5 hb4 hp4 HE4 HV3 HV4 AB HV2 B2
 go_wp2_with fail
 refine (za DM2 _ _ (za HV5) ((za HY).ze (za B4))).mono ?_
 rintro e5 w5 ⟨v6,v7,rfl,hv6,hv7,hb5,he7⟩
 have HE7:Hid (jk w (.slice a1 nx c1) w5 v7):=(za HE5).trans (za HV5) hb5 (za B4).size he7
 have HV6:=hide hv6
 have HV7:=hide hv7
 have B5:=hide ((za B4).trans' hb5)
 have HV25:=hide ((za HV2').ze hb5)
 clear hv6 hv7 hb5 he7 HE5 HV5 HV2' B4 DM2
 go_wp2_with fail
 first
  | refine (za AH _ _ (za HV25)).mono ?_
  | trace_state
 rintro e6 w6 ⟨v8,rfl,hv8,hb6⟩
 have HV8:=hide hv8
 have B6:=hide ((za B5).trans' hb6)
 have HV66:=hide ((za HV6).ze hb6)
 have HV76:=hide ((za HV7).ze hb6)
 have HE76:=hide ((za HE7).but (za HV7) hb6)
 clear hv8 hb6 HE7 HV6 HV7 HV25 B5 AH
 go_wp2_with fail
 refine (za AD _ _ _ (za HV8) (za HV66)).mono ?_
 rintro e7 w7 ⟨v9,rfl,hv9,hb7⟩
 have FIN:=hide (And.intro hv9 (And.intro ((za HV76).ze hb7) (And.intro ((za B6).trans' hb7) ((za HE76).but (za HV76) hb7))))
 clear hv9 hb7 HE76 HV8 HV66 HV76 B6 AD
 go_wp2
 go_ret2
 exact⟨_,_,rfl,(za FIN).1,by rw[za FE];exact (za FIN).2.1,(za FIN).2.2⟩
theorem qor (rs qs:List Nat) (i:Nat) (hl:i+qs.length≤rs.length) (hz:∀ j,i≤j→j<i+qs.length→rs[j]?.getD 0=0):vl 18446744073709551616 (rs.take i++qs++rs.drop (i+qs.length))=vl 18446744073709551616 rs + 18446744073709551616^i*vl 18446744073709551616 qs:=by
 have hti:(rs.take i).length=i:=by rw[List.length_take];omega
 have hmid:((rs.drop i).take qs.length).length=qs.length:=by rw[List.length_take,List.length_drop];omega
 have hz0:vl 18446744073709551616 ((rs.drop i).take qs.length)=0:=zbo 18446744073709551616 _ (fun j hj=>by
  rw[hmid] at hj
  rw[List.getElem?_take_of_lt hj,List.getElem?_drop]
  exact hz (i+j) (by omega) (by omega))
 have e:rs=rs.take i++(rs.drop i).take qs.length++rs.drop (i+qs.length):=by
  rw[List.append_assoc,← List.drop_drop,List.take_append_drop,List.take_append_drop]
 have h2:=congrArg (vl 18446744073709551616) e
 rw[qj,qj,List.length_append,hti,hmid,hz0] at h2
 rw[qj,qj,List.length_append,hti]
 omega
structure zax (X Y nx top:Nat) (rs:List Nat):Prop where
 len:rs.length=nx
 mem:∀ x ∈ rs,x < 18446744073709551616
 zero:∀ j,j<top→rs[j]?.getD 0=0
 val:vl 18446744073709551616 rs=18446744073709551616^top*(X / 18446744073709551616^top/Y)
theorem zax.start (X Y nx top:Nat) (h:nx≤top) (hX:X < 18446744073709551616^nx):zax X Y nx top (List.replicate nx 0):=by
 refine⟨by simp,fun x hx=>by rw[List.mem_replicate] at hx;omega,fun j _=>by rw[List.getElem?_replicate];split <;> rfl,?_⟩
 have h1:X / 18446744073709551616^top=0:=Nat.div_eq_of_lt (Nat.lt_of_lt_of_le hX (Nat.pow_le_pow_right (by omega) h))
 rw[ol,h1,Nat.zero_div,Nat.mul_zero]
theorem zow (X Y i n:Nat) (hY0:0<Y) (hY:Y < 18446744073709551616^n) (D:Nat) (hD:D=X / 18446744073709551616^(i+n)%Y * 18446744073709551616^n+X / 18446744073709551616^i % 18446744073709551616^n) :
  X / 18446744073709551616^i/Y=X / 18446744073709551616^(i+n)/Y * 18446744073709551616^n+D/Y∧X / 18446744073709551616^i%Y=D%Y∧D/Y < 18446744073709551616^n∧D/Y≤X / 18446744073709551616^i∧D < 18446744073709551616^(n+n):=by
 have hP:0 < 18446744073709551616^n:=Nat.pow_pos (by omega)
 have e1:X / 18446744073709551616^(i+n)=X / 18446744073709551616^i / 18446744073709551616^n:=by rw[Nat.pow_add,Nat.div_div_eq_div_mul]
 rw[e1] at hD ⊢
 generalize X / 18446744073709551616^i=A at *
 have hr:=Nat.mod_lt (A / 18446744073709551616^n) hY0
 have hp:=Nat.mod_lt A hP
 obtain⟨f1,f2⟩:=halves A Y (18446744073709551616^n) (A / 18446744073709551616^n/Y) (A / 18446744073709551616^n%Y) (D/Y) (D%Y) (by rw[Nat.mul_comm];exact (Nat.div_add_mod _ _).symm) (by rw[← hD,Nat.mul_comm (D/Y)];exact (Nat.div_add_mod _ _).symm) (Nat.mod_lt _ hY0)
 have hDl:D<Y * 18446744073709551616^n:=by
  have h1:(A / 18446744073709551616^n%Y+1) * 18446744073709551616^n≤Y * 18446744073709551616^n:=Nat.mul_le_mul_right _ hr
  rw[Nat.succ_mul] at h1
  omega
 refine⟨f1,f2,Nat.div_lt_of_lt_mul hDl,?_,?_⟩
 ·have:A/Y≤A:=Nat.div_le_self _ _
  omega
 ·rw[Nat.pow_add]
  exact Nat.lt_of_lt_of_le hDl (Nat.mul_le_mul_right _ (Nat.le_of_lt hY))
theorem zax.step {X Y nx i n:Nat} {rs:List Nat} (h:zax X Y nx (i+n) rs) (hY0:0<Y) (hY:Y < 18446744073709551616^n) (D:Nat) (hD:D=X / 18446744073709551616^(i+n)%Y * 18446744073709551616^n+X / 18446744073709551616^i % 18446744073709551616^n) (hl:i+(wd 18446744073709551616 (D/Y)).length≤nx) :
  zax X Y nx i (rs.take i++wd 18446744073709551616 (D/Y)++rs.drop (i+(wd 18446744073709551616 (D/Y)).length)):=by
 obtain⟨f1,-,f3,-,-⟩:=zow X Y i n hY0 hY D hD
 have hq:(wd 18446744073709551616 (D/Y)).length≤n:=zt (by omega) _ _ f3
 have hlen:=h.len
 have hti:(rs.take i).length=i:=by rw[List.length_take];omega
 refine⟨?_,?_,?_,?_⟩
 ·rw[List.length_append,List.length_append,hti,List.length_drop];omega
 ·intro x hx
  rw[List.mem_append,List.mem_append] at hx
  rcases hx with (hx | hx) | hx
  ·exact h.mem x (List.mem_of_mem_take hx)
  ·exact qy (by omega) _ x hx
  ·exact h.mem x (List.mem_of_mem_drop hx)
 ·intro j hj
  rw[List.append_assoc,List.getElem?_append_left (by rw[hti];exact hj),List.getElem?_take_of_lt hj]
  exact h.zero j (by omega)
 ·rw[qor rs _ i (by omega) (fun j _ hj=>h.zero j (by omega)),h.val,xh (by omega),f1,Nat.pow_add,Nat.mul_add]
  congr 1
  rw[Nat.mul_assoc,Nat.mul_comm (18446744073709551616^n)]
theorem jk.over {w w1 w2:World} {vx v1:Value} {xs:List Nat} {g:Nat} (h:jk w vx w1 v1) (hs:Sl .u64 w1 v1 xs) (hb:But [g] w1 w2) (ho:Off g v1):jk w vx w2 v1:=fun b off n c e=>by
 rcases h b off n c e with ⟨h1,h2⟩ | h1
 ·refine .inl ⟨h1,fun i hi=>?_⟩
  have hn:=hs.zqq e
  have hl:=hs.lt (by omega) b off n c e
  rw[hb.frozen (p:=⟨b,off+i,none⟩) hl (by have:=ho b off n c e;simpa using this)]
  exact h2 i hi
 ·exact .inr h1
theorem jk.off {w w1:World} {vx v1:Value} {g:Nat} (h:jk w vx w1 v1) (hg:g<w.heap.size) (hx:Off g vx):Off g v1:=fun b off n c e=>by
 rcases h b off n c e with ⟨h1,-⟩|⟨o0,n0,c0,e0,-,-⟩
 ·omega
 ·exact hx _ _ _ _ e0
theorem qhd {w:World} {g nx i:Nat} {rs qs:List Nat} {vq:Value} (hs:Seg w g 0 rs) (hl:rs.length=nx) (hq:Sl .u64 w vq qs) (hi:i+qs.length≤nx):∃ w',(∀ ty,(Builtin.copy_ #[100,101] ty #[.slice (some ⟨g,i,none⟩) (nx-i) (nx-i),vq]).run prog w=.ok (goInt qs.length) w')∧Hid (Seg w' g 0 (rs.take i++qs++rs.drop (i+qs.length))∧But [g] w w'):=by
 have S2:=hs.sub i (nx-i) (by omega)
 have hsl:((rs.drop i).take (nx-i)).length=nx-i:=by rw[List.length_take,List.length_drop,hl];omega
 obtain⟨w3,hcp,HC⟩:=jr (P:=prog) w 100 101 32 underlying100 l8 g (0+i) (nx-i) (nx-i) vq ((rs.drop i).take (nx-i)) qs S2 hsl.symm hq (by rw[hsl];omega)
 have S7:=(za HC).1.sub 0 qs.length (by rw[List.length_append];omega)
 rw[List.drop_zero,List.take_left,Nat.add_zero] at S7
 have SW:=hs.whole (za HC).2 S7 rfl (by omega)
 rw[Nat.zero_add] at SW hcp
 exact⟨w3,hcp,SW,(za HC).2.but⟩
def PartsAt (W:World) (vx:Value) (X Y nx n g k:Nat) (vr vi:Value) (wr:World):Prop :=
 ∃ (z:Int) (rs:List Nat),vi=.int .i64 z∧z=(k:Int)-(n:Int)∧zax X Y nx k rs∧Seg wr g 0 rs∧Sl .u64 wr vr (wd 18446744073709551616 (X / 18446744073709551616^k%Y))∧jk W vx wr vr∧But [g] W wr∧k<nx+n∧n ∣ k
theorem zja (vx vy:Value) (X Y:Nat) (w:World) (hx:Sl .u64 w vx (wd 18446744073709551616 X)) (hy:Sl .u64 w vy (wd 18446744073709551616 Y)) (hY:0<Y) (hX:0<X) (hD:∀ D,(wd 18446744073709551616 D).length≤(wd 18446744073709551616 Y).length+(wd 18446744073709551616 Y).length→dh D Y) (hl:(wd 18446744073709551616 X).length+(wd 18446744073709551616 Y).length<4194304) :
  Calls prog 178 #[vx,vy] w fun e w'=>∃ v1 v2,e=.returned (.tuple #[v1,v2])∧Sl .u64 w' v1 (wd 18446744073709551616 (X/Y))∧Sl .u64 w' v2 (wd 18446744073709551616 (X%Y))∧But [] w w'∧jk w vx w' v2:=by
 have hnp:0<(wd 18446744073709551616 Y).length:=by rw[Nat.pos_iff_ne_zero];intro e;rw[qo (by omega)] at e;omega
 have hxp:0<(wd 18446744073709551616 X).length:=by rw[Nat.pos_iff_ne_zero];intro e;rw[qo (by omega)] at e;omega
 obtain⟨nx,hnx⟩:∃ nx,nx=(wd 18446744073709551616 X).length:=⟨_,rfl⟩
 obtain⟨n,hn⟩:∃ n,n=(wd 18446744073709551616 Y).length:=⟨_,rfl⟩
 have hYP:Y < 18446744073709551616^n:=by rw[hn];exact zcx Y
 have hXP:X < 18446744073709551616^nx:=by rw[hnx];exact zcx X
 have offx:Off w.heap.size vx:=nk hx hxp _ (Nat.le_refl _)
 have offy:Off w.heap.size vy:=nk hy hnp _ (Nat.le_refl _)
 rw[← hnx,← hn] at hl
 rw[← hnx] at hxp
 rw[← hn] at hnp hD
 have bM:=kv w nx 32
 have SM:=Seg.made w nx 32
 obtain⟨d,hd⟩:∃ d,d=(nx-1)/n:=⟨_,rfl⟩
 obtain⟨z0,hz0⟩:∃ z0,z0=d*n:=⟨_,rfl⟩
 have hz1:z0≤nx-1:=by rw[hz0,hd];exact Nat.div_mul_le_self _ _
 have hz2:nx≤z0+n:=by
  have h1:=Nat.div_add_mod (nx-1) n
  have h2:=Nat.mod_lt (nx-1) hnp
  rw[← hd,Nat.mul_comm,← hz0] at h1
  omega
 have hdl:d≤nx:=by rw[hd];exact Nat.le_trans (Nat.div_le_self _ _) (Nat.sub_le _ _)
 have hmk:=fun wx=>kz wx nx (by omega)
 obtain⟨W,hW⟩:∃ W,W=w.alloc (.cells (madeCells #[.int .u64 0] nx) 32):=⟨_,rfl⟩
 have hgW:w.heap.size<W.heap.size:=by rw[hW];simp
 rw[← hW] at bM SM
 have A0:Hid (PartsAt W vx X Y nx n w.heap.size (z0+n) (.slice none 0 0) (.int .i64 (z0:Int)) W):=by
  refine⟨(z0:Int),_,rfl,by omega,zax.start X Y nx (z0+n) hz2 hXP,SM,?_,jk.nil _ _ _ _ _,But.refl _ _,by omega,?_⟩
  ·rw[Nat.div_eq_of_lt (Nat.lt_of_lt_of_le hXP (Nat.pow_le_pow_right (by omega) hz2)),Nat.zero_mod,qd]
   exact Sl.nil _ _
  ·rw[hz0];exact⟨d+1,by rw[Nat.mul_comm,Nat.mul_succ]⟩
 have SX:=hide (hx.ze bM)
 have SY:=hide (hy.ze bM)
 have OX:=hide offx
 have OY:=hide offy
 have BM:=hide bM
 have GW:=hide hgW
 have HD:=hide hD
 have HYP:=hide (And.intro hY hYP)
 have e1:((nx:Int)-1)/(n:Int)=(d:Int):=by rw[hd,Int.natCast_ediv,Int.natCast_sub hxp];rfl
 have e2:(d:Int)*(n:Int)=(z0:Int):=by rw[hz0,Int.natCast_mul]
 have e3:wrap64 (d:Int)=(d:Int):=by unfold wrap64;omega
 have e4:wrap64 (z0:Int)=(z0:Int):=by unfold wrap64;omega
 have n0:((n:Int)==0)=false:=beq_eq_false_iff_ne.2 (by omega)
 have HW:=hide hW
 obtain⟨a1,c1,rfl,-,-⟩:=hx
 obtain⟨a2,c2,rfl,-,-⟩:=hy
 rw[← hnx] at A0 SX OX
 rw[← hn] at SY OY
 rw[← hnx,← hn]
 have NX:=hide hnx.symm
 clear hnx hn hD hX offx offy bM SM hd hz0 hW hYP hXP hY hgW
 go_enter func178,ntmps178
 go_wp2_with fail
 rw[← za HW]
 go_loopg [9,10] (z0+n) (fun k vr vi wr=>Hid (PartsAt W (.slice a1 nx c1) X Y nx n w.heap.size k vr vi wr))
 case atStart=>exact A0
 case round =>
  clear A0 e1 e2 e3 e4
  obtain⟨z,rs,rfl,hz,hI,hS,hR,hH,hB,hk,hdv⟩:=za hrel
  clear hrel
  obtain⟨hY,hYP⟩:=za HYP
  have hlen:=hI.len
  by_cases hz0:z<0
  ·have hgk:gk=0:=Nat.eq_zero_of_dvd_of_lt hdv (by omega)
   subst hgk
   have hv:vl 18446744073709551616 rs=X/Y:=by rw[hI.val,Nat.pow_zero,Nat.one_mul,Nat.div_one]
   rw[Nat.pow_zero,Nat.div_one] at hR
   have TR:=hide (qp (.slice (some ⟨w.heap.size,0,none⟩) nx nx) rs wr (by have:=hS.sl nx (by omega);rw[hlen] at this;exact this) hI.mem (by omega))
   rw[hv] at TR
   have FIN:=hide (And.intro hR (And.intro ((za BM).trans hB (fun x hx=>by simp at hx;subst hx;exact .inr (Nat.le_refl _))) (hH.pre (za BM).size)))
   clear hI hS hR hH hB hdv hlen hv hY hYP hz
   go_wp2_with fail
   refine (za TR).mono ?_
   rintro e1 w1 ⟨v1,rfl,hv1,hw,-⟩
   obtain rfl:=hw.symm
   clear hw
   have HV1:=hide hv1
   clear hv1 TR
   go_wp2
   go_ret2
   exact⟨_,_,rfl,za HV1,(za FIN).1,(za FIN).2.1,(za FIN).2.2⟩
  ·obtain⟨i,rfl⟩:∃ i:Nat,z=(i:Int):=⟨z.toNat,by omega⟩
   have hki:gk=i+n:=by omega
   subst hki
   obtain⟨D,hDD⟩:∃ D,D=X / 18446744073709551616^(i+n)%Y * 18446744073709551616^n+X / 18446744073709551616^i % 18446744073709551616^n:=⟨_,rfl⟩
   obtain⟨f1,f2,f3,f4,f5⟩:=zow X Y i n hY hYP D hDD
   have hq1:(wd 18446744073709551616 (D/Y)).length≤nx-i:=by
    have h1:=zu f4
    have h2:=ko i X
    rw[za NX] at h2
    omega
   have hrl:(wd 18446744073709551616 (X / 18446744073709551616^(i+n)%Y)).length≤n:=zt (by omega) _ _ (Nat.lt_trans (Nat.mod_lt _ hY) hYP)
   have hdl:(wd 18446744073709551616 D).length≤n+n:=zt (by omega) _ _ f5
   have hxl:=ko i X
   rw[za NX] at hxl
   have sx:=(za SX).but hB (fun b off cap m e=>by have:=za OX b off m cap e;simpa using this)
   have sy:=(za SY).but hB (fun b off cap m e=>by have:=za OY b off m cap e;simpa using this)
   have HI:=hide (zvu _ X i wr sx (by omega))
   have LO:=hide (fun v1 (h:Sl .u64 wr v1 (wd 18446744073709551616 (X / 18446744073709551616^i)))=>zgw v1 _ n wr h (by omega) (by omega))
   have AB:Hid (∀ v2,Sl .u64 wr v2 (wd 18446744073709551616 (X / 18446744073709551616^i % 18446744073709551616^n))→Calls prog 194 #[u9,.int .i64 (n:Int),v2] wr fun e w'=>∃ v',e=.returned v'∧Sl .u64 w' v' (wd 18446744073709551616 D)∧But [] wr w'∧(v'=v2∨Own wr.heap.size w' v')):=fun v2 h=>by
    rw[hDD]
    exact (zaf u9 v2 _ _ n wr hR h (Nat.mod_lt _ (Nat.pow_pos (by omega))) (by omega)).mono fun e w' ⟨v',he,hv,hb,hp⟩=>⟨v',he,hv,hb,hp.elim (fun h=>.inl h.2) .inr⟩
   have DV:=hide (za HD D hdl)
   unfold dh at DV
   rw[← f2] at DV
   have STEP:=hide (hI.step hY hYP D hDD (by omega))
   have KEEP:=hide (And.intro hS (And.intro hB (And.intro hlen (And.intro sx sy))))
   have HQ:=hide hq1
   have HDV:=hide hdv
   have i1:(0:Int)≤(i:Int):=by omega
   have i2:(i:Int)<(nx:Int):=by omega
   have i3:i<nx:=by omega
   obtain⟨ar,cr,rfl,-,-⟩:=hR
   generalize (wd 18446744073709551616 (X / 18446744073709551616^(i+n)%Y)).length=lr at *
   clear hI hS hH hB hdv hlen hY hYP hz hDD f1 f2 f3 f4 f5 hq1 hrl hdl hxl sx sy hz0
   go_wp2_with fail
   refine (za HI).mono ?_
   rintro e1 w1 ⟨v1,rfl,hv1,hw,he1⟩
   obtain rfl:=hw.symm
   clear hw
   have HV1:=hide hv1
   have HE1:=hide he1
   clear hv1 he1 HI
   go_wp2_with fail
   refine (za LO _ (za HV1)).mono ?_
   rintro e2 w2 ⟨v2,rfl,hv2,hw,he2⟩
   obtain rfl:=hw.symm
   clear hw
   have HV2:=hide hv2
   have HE2:=hide ((za HE1).trans (za HV1) (But.refl _ _) (Nat.le_refl _) he2)
   clear hv2 he2 LO HE1 HV1
   go_wp2_with fail
   refine (za AB _ (za HV2)).mono ?_
   rintro e3 w3 ⟨v3,rfl,hv3,hb3,hp3⟩
   have HV3:=hide hv3
   have B3:=hide hb3
   have HE3:Hid (jk wr (.slice a1 nx c1) w3 v3):=by
    rcases hp3 with rfl | ho
    ·exact (za HE2).but (za HV2) hb3
    ·exact jk.zdq ho
   clear hv3 hb3 hp3 AB HE2 HV2
   go_wp2_with fail
   refine (za DV _ _ _ (za HV3) ((za KEEP).2.2.2.2.ze (za B3))).mono ?_
   rintro e4 w4 ⟨v4,v5,rfl,hv4,hv5,hb4,he4⟩
   have b4:=(za B3).trans' hb4
   have he5:=((za HE3).trans (za HV3) hb4 (za B3).size he4).pre (za KEEP).2.1.size
   have off5:=he5.off (za GW) (za OX)
   obtain⟨w5,hcp,HC⟩:=qhd (i:=i) (nx:=nx) ((za KEEP).1.ze b4) (za KEEP).2.2.1 hv4 (by have:=za HQ;omega)
   have s5:=hv5.but (za HC).2 (fun b off cap m e=>by have:=off5 b off m cap e;simpa using this)
   have R:Hid (PartsAt W (.slice a1 nx c1) X Y nx n w.heap.size i v5 (.int .i64 ((i:Int)-(n:Int))) w5) :=
    ⟨_,_,rfl,rfl,za STEP,(za HC).1,s5,he5.over hv5 (za HC).2 off5,((za KEEP).2.1.trans (But.of_nil b4) (fun x hx=>.inl hx)).trans (za HC).2 (fun x hx=>.inl hx),by omega,(Nat.dvd_add_iff_left (Nat.dvd_refl n)).2 (za HDV)⟩
   obtain⟨a4,c4,rfl,-,-⟩:=hv4
   clear hv5 hb4 he4 b4 he5 off5 HC s5 HE3 HV3 B3 DV KEEP STEP HDV
   generalize (wd 18446744073709551616 (D/Y)).length=lq at *
   go_wp2
   go_roundg i
   case measure=>omega
   case rel=>exact za R
theorem zir (X Y:Nat) (hlt:X<Y) (hl:(wd 18446744073709551616 Y).length<268435456):dh X Y:=by
 intro vx vy w hx hy
 have hlen:=zu (Nat.le_of_lt hlt)
 have hcmp:=ve vx vy X Y w hx hy (by omega) (by omega)
 rw[si hlt] at hcmp
 rw[Nat.div_eq_of_lt hlt,Nat.mod_eq_of_lt hlt,qd]
 have HC:=hide hcmp
 have HX:=hide hx
 obtain⟨a1,c1,rfl,-,-⟩:=hx
 obtain⟨a2,c2,rfl,-,-⟩:=hy
 clear hcmp
 generalize (wd 18446744073709551616 X).length=nx at *
 generalize (wd 18446744073709551616 Y).length=ny at *
 go_enter func146,ntmps146
 go_wp2_with fail
 refine (za HC).mono ?_
 rintro e w1 ⟨rfl,q,rfl⟩
 go_wp2
 go_ret2
 exact⟨_,_,rfl,Sl.nil _ _,za HX,(But.refl _ _).drewN q,jk.self _ _ _⟩
theorem zqz (X Y:Nat) (hle:Y≤X) (h80:80≤(wd 18446744073709551616 Y).length) (hp:(wd 18446744073709551616 Y).length+(wd 18446744073709551616 Y).length<(wd 18446744073709551616 X).length) (hl:(wd 18446744073709551616 X).length+(wd 18446744073709551616 Y).length<4194304) (hD:∀ D,(wd 18446744073709551616 D).length≤(wd 18446744073709551616 Y).length+(wd 18446744073709551616 Y).length→dh D Y):dh X Y:=by
 intro vx vy w hx hy
 have hY:0<Y:=by
  rcases Nat.eq_zero_or_pos Y with h | h
  ·subst h;rw[qd] at h80;simp at h80
  ·exact h
 have hcmp:=ve vx vy X Y w hx hy (by omega) (by omega)
 have hc0:=zel hle
 generalize q8 X Y=r at *
 have HC:=hide hcmp
 have LD:=hide (fun (W:World) (h1:Sl .u64 W vx (wd 18446744073709551616 X)) (h3:Sl .u64 W vy (wd 18446744073709551616 Y))=>zja vx vy X Y W h1 h3 hY (by omega) hD hl)
 have HX:=hide hx
 have HY:=hide hy
 obtain⟨a1,c1,rfl,-,-⟩:=hx
 obtain⟨a2,c2,rfl,-,-⟩:=hy
 clear hcmp hD
 generalize (wd 18446744073709551616 X).length=nx at *
 generalize (wd 18446744073709551616 Y).length=ny at *
 have hr:decide (r<0)=false:=by simp;omega
 go_enter func146,ntmps146
 go_wp2_with fail
 refine (za HC).mono ?_
 rintro e w1 ⟨rfl,q,rfl⟩
 go_wp2_with fail
 refine (za LD _ (by exact za HX) (by exact za HY)).mono ?_
 rintro e w2 ⟨v1,v2,rfl,h1,h3,h4,h5⟩
 have ALL:=hide (And.intro h1 (And.intro h3 (And.intro (((But.refl [] _).drewN q).trans' h4) (h5.pre (w:=w) (Nat.le_refl _)))))
 clear h1 h3 h4 h5 LD HC
 go_wp2
 go_ret2
 exact⟨v1,v2,rfl,(za ALL).1,(za ALL).2.1,(za ALL).2.2.1,(za ALL).2.2.2⟩
theorem zod (X Y n:Nat) (hle:Y≤X) (h80:80≤(wd 18446744073709551616 Y).length) (hm:(wd 18446744073709551616 Y).length+80≤(wd 18446744073709551616 X).length) (hp:(wd 18446744073709551616 X).length≤(wd 18446744073709551616 Y).length+(wd 18446744073709551616 Y).length) (hn:n=((wd 18446744073709551616 X).length-(wd 18446744073709551616 Y).length)/2) (hl:(wd 18446744073709551616 X).length+(wd 18446744073709551616 Y).length+n<8388608) (hD1:dh (X / 18446744073709551616^n / 18446744073709551616^n) (Y / 18446744073709551616^n)) (hD2:dh (X / 18446744073709551616^n%Y) (Y / 18446744073709551616^n)):dh X Y:=by
 intro vx vy w hx hy
 have hYn:0<Y / 18446744073709551616^n:=by
  have:=ko n Y
  rcases Nat.eq_zero_or_pos (Y / 18446744073709551616^n) with h | h
  ·rw[h,qd,List.length_nil] at this;omega
  ·exact h
 have hcmp:=ve vx vy X Y w hx hy (by omega) (by omega)
 have hc0:=zel hle
 generalize q8 X Y=r at *
 have HC:=hide hcmp
 have LD:=hide (fun (W:World) (h1:Sl .u64 W vx (wd 18446744073709551616 X)) (h3:Sl .u64 W vy (wd 18446744073709551616 Y))=>zhl vx vy X Y n W h1 h3 hYn hD1 hD2 hl)
 have HX:=hide hx
 have HY:=hide hy
 obtain⟨a1,c1,rfl,-,-⟩:=hx
 obtain⟨a2,c2,rfl,-,-⟩:=hy
 clear hcmp hD1 hD2 hYn
 generalize (wd 18446744073709551616 X).length=nx at *
 generalize (wd 18446744073709551616 Y).length=ny at *
 have hr:decide (r<0)=false:=by simp;omega
 have e1:((nx:Int)-(ny:Int))/2=(n:Int):=by omega
 clear hn
 go_enter func146,ntmps146
 go_wp2_with fail
 refine (za HC).mono ?_
 rintro e w1 ⟨rfl,q,rfl⟩
 go_wp2_with fail
 refine (za LD _ (by exact za HX) (by exact za HY)).mono ?_
 rintro e w2 ⟨v1,v2,rfl,h1,h3,h4,h5⟩
 have ALL:=hide (And.intro h1 (And.intro h3 (And.intro (((But.refl [] _).drewN q).trans' h4) (h5.pre (w:=w) (Nat.le_refl _)))))
 clear h1 h3 h4 h5 LD HC
 go_wp2
 go_ret2
 exact⟨v1,v2,rfl,(za ALL).1,(za ALL).2.1,(za ALL).2.2.1,(za ALL).2.2.2⟩
theorem ztu (m:Nat):∀ X Y,(wd 18446744073709551616 X).length≤m→2≤(wd 18446744073709551616 Y).length→m+(wd 18446744073709551616 Y).length<2097152→dh X Y:=by
 induction m with
 | zero =>
  intro X Y hX h2 hl
  have h0:X=0:=(qo (B:=18446744073709551616) (by omega) X).1 (by omega)
  have hY:0<Y:=by
   rcases Nat.eq_zero_or_pos Y with h | h
   ·subst h;rw[qd] at h2;simp at h2
   ·exact h
  exact zir X Y (by omega) (by omega)
 | succ m ih =>
  intro X Y hX h2 hl
  rcases Nat.lt_or_ge X Y with hlt | hge
  ·exact zir X Y hlt (by omega)
  ·by_cases hs:(wd 18446744073709551616 X).length<(wd 18446744073709551616 Y).length+80∨(wd 18446744073709551616 Y).length<80
   ·intro vx vy w hx hy
    exact (zqy X Y h2 hge (by omega) hs vx vy w hx hy).mono fun e w' ⟨v1,v2,h1,h3,h4,h5,h6⟩=>⟨v1,v2,h1,h3,h4,h5,jk.zdq (h6 hge)⟩
   ·by_cases hp:(wd 18446744073709551616 Y).length+(wd 18446744073709551616 Y).length<(wd 18446744073709551616 X).length
    ·exact zqz X Y hge (by omega) hp (by omega) (fun D hD=>ih D Y (by omega) h2 (by omega))
    ·obtain⟨n,hn⟩:∃ n,n=((wd 18446744073709551616 X).length-(wd 18446744073709551616 Y).length)/2:=⟨_,rfl⟩
     have l1:=ko n X
     have l2:=ko n (X / 18446744073709551616^n)
     have l3:=ko n Y
     have l4:(wd 18446744073709551616 (X / 18446744073709551616^n%Y)).length≤(wd 18446744073709551616 Y).length:=zu (Nat.le_of_lt (Nat.mod_lt _ (by
      rcases Nat.eq_zero_or_pos Y with h | h
      ·subst h;rw[qd] at h2;simp at h2
      ·exact h)))
     exact zod X Y n hge (by omega) (by omega) (by omega) hn (by omega) (ih _ _ (by omega) (by omega) (by omega)) (ih _ _ (by omega) (by omega) (by omega))
theorem zql (vx vy:Value) (X Y:Nat) (w:World) (hx:Sl .u64 w vx (wd 18446744073709551616 X)) (hy:Sl .u64 w vy (wd 18446744073709551616 Y)) (hY:0<Y) (hl:(wd 18446744073709551616 X).length<134217728) (hly:(wd 18446744073709551616 Y).length<134217728)
  (hD:2≤(wd 18446744073709551616 Y).length→Y≤X→dh (X*2^lz (qh Y)) (Y*2^lz (qh Y))) :
  Calls prog 115 #[vx,vy] w fun e w'=>∃ v1 v2,e=.returned (.tuple #[v1,v2])∧Sl .u64 w' v1 (wd 18446744073709551616 (X/Y))∧Sl .u64 w' v2 (wd 18446744073709551616 (X%Y))∧But [] w w'∧jk w vx w' v2:=by
 have hcmp:=ve vx vy X Y w hx hy (by omega) (by omega)
 rcases Nat.lt_or_ge X Y with hlt | hge
 ·rw[si hlt] at hcmp
  rw[Nat.div_eq_of_lt hlt,Nat.mod_eq_of_lt hlt,qd]
  have HC:=hide hcmp
  have HX:=hide hx
  obtain⟨a1,c1,rfl,-,-⟩:=hx
  obtain⟨a2,c2,rfl,-,-⟩:=hy
  clear hcmp hD
  generalize (wd 18446744073709551616 X).length=nx at *
  generalize (wd 18446744073709551616 Y).length=ny at *
  go_enter func115,ntmps115
  go_wp2_with fail
  refine (za HC).mono ?_
  rintro e w1 ⟨rfl,q,rfl⟩
  go_wp2
  go_ret2
  exact⟨_,_,rfl,Sl.nil _ _,za HX,(But.refl _ _).drewN q,jk.self _ _ _⟩
 ·have hc0:=zel hge
  generalize q8 X Y=r at *
  have hr:decide (r<0)=false:=by simp;omega
  have HC:=hide hcmp
  have HX:=hide hx
  have HY:=hide hy
  rcases hy.open with ⟨e,-⟩|⟨hp,b2,o2,c2,rfl,hc2,-,hcell⟩
  ·rw[ou (by omega)] at e;omega
  obtain⟨a1,c1,rfl,-,-⟩:=hx
  by_cases h1:(wd 18446744073709551616 Y).length=1
  ·have hYB:Y < 18446744073709551616:=by
    have:=zw (B:=18446744073709551616) (by omega) Y 1 (by omega)
    rw[Nat.pow_one] at this
    exact this
   have hc:=hcell 0 (by omega)
   rw[Nat.add_zero,zcc Y hY hYB] at hc
   simp only[List.getElem?_cons_zero,Option.getD_some] at hc
   have HB:=hide (fun (W:World) (h:Sl .u64 W (.slice a1 (wd 18446744073709551616 X).length c1) (wd 18446744073709551616 X))=>zfn _ X Y W h (by omega) hY hYB)
   have hmod:X%Y < 18446744073709551616:=Nat.lt_trans (Nat.mod_lt _ hY) hYB
   clear hcmp hD hcell hy
   generalize hnx:(wd 18446744073709551616 X).length=nx at *
   generalize hny:(wd 18446744073709551616 Y).length=ny at *
   clear hnx hny
   have e1:((ny:Int)==1)=true:=beq_iff_eq.2 (by omega)
   have hp1:(0:Int)<(ny:Int):=by omega
   have HE:=hide h1
   clear h1
   go_enter func115,ntmps115
   go_wp2_with fail
   refine (za HC).mono ?_
   rintro e w1 ⟨rfl,q,rfl⟩
   go_wp2_with fail
   refine (za HB _ (by exact za HX)).mono ?_
   rintro e w2 ⟨v1,rfl,hv1,hb2⟩
   have B2:Hid (But [] w w2):=((But.refl [] _).drewN q).trans' hb2
   have HV1:=hide hv1
   clear hb2 hv1
   go_wp2_with fail
   refine (jo (X%Y) hmod _).mono ?_
   rintro e w3 ⟨v2,rfl,hv2,hb3,ho3⟩
   have ALL:=hide (And.intro ((za HV1).ze hb3) (And.intro hv2 (And.intro ((za B2).trans' hb3) (ho3.mono (za B2).size))))
   clear hv2 hb3 ho3
   go_wp2
   go_ret2
   exact⟨v1,v2,rfl,(za ALL).1,(za ALL).2.1,(za ALL).2.2.1,jk.zdq (za ALL).2.2.2⟩
  ·obtain⟨t1,t2,-,-⟩:=zed Y hY
   have hs:=(uo (qh Y) t1 t2).1
   have hDO:=hD (by omega) hge
   have hct:=hcell ((wd 18446744073709551616 Y).length-1) (by omega)
   have LZ:=hide (fun W=>zdt (qh Y) t1 t2 W)
   have hnl:=zsy Y hY
   have hsl:=zpz X (lz (qh Y)) hs
   rw[show (wd 18446744073709551616 Y)[(wd 18446744073709551616 Y).length-1]?.getD 0=qh Y from rfl] at hct
   have HL1:=hide (fun (W:World) (h:Sl .u64 W (.slice a1 (wd 18446744073709551616 X).length c1) (wd 18446744073709551616 X))=>zih _ X (lz (qh Y)) W h (by omega) hs)
   have HL2:=hide (fun (W:World) (h:Sl .u64 W (.slice (some ⟨b2,o2,none⟩) (wd 18446744073709551616 Y).length c2) (wd 18446744073709551616 Y))=>zih _ Y (lz (qh Y)) W h (by omega) hs)
   have hz:0<2^lz (qh Y):=Nat.pow_pos (by omega)
   have HDO:=hide hDO
   unfold dh at HDO
   rw[Nat.mul_div_mul_right _ _ hz,Nat.mul_mod_mul_right] at HDO
   have hrl:(wd 18446744073709551616 (X%Y*2^lz (qh Y))).length<1073741824:=by
    have:=zpz (X%Y) (lz (qh Y)) hs
    have h3:=zu (Nat.mod_le X Y)
    omega
   have HRR:=hide (fun (v:Value) (W:World) (h:Sl .u64 W v (wd 18446744073709551616 (X%Y*2^lz (qh Y))))=>zqk v (X%Y*2^lz (qh Y)) (lz (qh Y)) W h hrl hs)
   rw[Nat.mul_div_cancel _ hz] at HRR
   clear hcmp hD hDO hcell hy hnl hsl hz
   generalize lz (qh Y)=s at *
   generalize qh Y=t at *
   generalize hnx:(wd 18446744073709551616 X).length=nx at *
   generalize hny:(wd 18446744073709551616 Y).length=ny at *
   clear hnx hny
   have e1:((ny:Int)==1)=false:=beq_eq_false_iff_ne.2 (by omega)
   go_enter func115,ntmps115
   go_wp2_with fail
   refine (za HC).mono ?_
   rintro e w1 ⟨rfl,q,rfl⟩
   go_wp2_with fail
   refine (za LZ _).mono ?_
   rintro e w1 ⟨rfl,hw⟩
   obtain rfl:=hw.symm
   clear hw
   go_wp2_with fail
   refine (za HL1 _ (by exact za HX)).mono ?_
   rintro e w2 ⟨v1,rfl,hv1,hb2,hp2⟩
   have B2:Hid (But [] w w2):=((But.refl [] _).drewN q).trans' hb2
   have HE1:Hid (jk w (.slice a1 nx c1) w2 v1):=by
    rcases hp2 with rfl | ho
    ·exact jk.self _ _ _
    ·exact (jk.zdq ho).pre (Nat.le_refl _)
   have HV1:=hide hv1
   clear hb2 hv1 hp2
   go_wp2_with fail
   refine (za HL2 _ ((za HY).ze (za B2))).mono ?_
   rintro e w3 ⟨v2,rfl,hv2,hb3,-⟩
   have B3:Hid (But [] w w3):=(za B2).trans' hb3
   have HV2:=hide hv2
   have HV1':=hide ((za HV1).ze hb3)
   have HE1':=hide ((za HE1).but (za HV1) hb3)
   clear hv2 hb3 HV1 HE1
   go_wp2_with fail
   refine (za HDO v1 v2 _ (za HV1') (za HV2)).mono ?_
   rintro e w4 ⟨v3,v4,rfl,hv3,hv4,hb4,he4⟩
   have B4:Hid (But [] w w4):=(za B3).trans' hb4
   have H3:=hide hv3
   have H4:=hide hv4
   have HE4:=hide ((za HE1').trans (za HV1') hb4 (za B3).size he4)
   clear hv3 hv4 hb4 he4 HE1'
   go_wp2_with fail
   refine (za HRR v4 _ (za H4)).mono ?_
   rintro e w5 ⟨v5,rfl,hv5,hb5,hp5⟩
   have HE5:jk w (.slice a1 nx c1) w5 v5:=by
    rcases hp5 with rfl | ho
    ·exact (za HE4).but (za H4) hb5
    ·exact (jk.zdq ho).pre (za B4).size
   have ALL:=hide (And.intro ((za H3).ze hb5) (And.intro hv5 (And.intro ((za B4).trans' hb5) HE5)))
   clear hv5 hb5 hp5 HE5 HE4
   go_wp2
   go_ret2
   exact⟨v3,v5,rfl,(za ALL).1,(za ALL).2.1,(za ALL).2.2.1,(za ALL).2.2.2⟩
def Short (X _Y:Nat):Prop:=(wd 18446744073709551616 X).length≤1000000
theorem Short.of (X Y:Nat) (h:(wd 18446744073709551616 X).length≤1000000):Short X Y:=h
theorem zbm (vx vy:Value) (X Y:Nat) (w:World) (hx:Sl .u64 w vx (wd 18446744073709551616 X)) (hy:Sl .u64 w vy (wd 18446744073709551616 Y)) (hY:0<Y) (hl:(wd 18446744073709551616 X).length<134217728) (hly:(wd 18446744073709551616 Y).length<134217728) (hs:Short X Y) :
  Calls prog 115 #[vx,vy] w fun e w'=>∃ v1 v2,e=.returned (.tuple #[v1,v2])∧Sl .u64 w' v1 (wd 18446744073709551616 (X/Y))∧Sl .u64 w' v2 (wd 18446744073709551616 (X%Y))∧But [] w w'∧jk w vx w' v2 :=
 zql vx vy X Y w hx hy hY hl hly (fun h2 hle=>by
  obtain⟨t1,t2,-,-⟩:=zed Y hY
  have hz:=(uo (qh Y) t1 t2).1
  have h3:=zsy Y hY
  have h4:=zpz X (lz (qh Y)) hz
  have h5:=zu hle
  unfold Short at hs
  exact ztu (wd 18446744073709551616 (X*2^lz (qh Y))).length _ _ (Nat.le_refl _) (by omega) (by omega))
theorem jb (vx vy:Value) (X Y:Nat) (w:World) (hx:Sl .u64 w vx (wd 18446744073709551616 X)) (hy:Sl .u64 w vy (wd 18446744073709551616 Y)) (hY:0<Y) (hl:(wd 18446744073709551616 X).length<134217728) (hly:(wd 18446744073709551616 Y).length<134217728) (hs:Short X Y) :
  Calls prog 92 #[vx,vy] w fun e w'=>∃ v1,e=.returned v1∧Sl .u64 w' v1 (wd 18446744073709551616 (X/Y))∧But [] w w':=by
 have HX:=hide hx
 have HQ:=hide (zbm vx vy X Y w hx hy hY hl hly hs)
 have HO:=hide (fun r hr=>fw vy Y w hy (by omega) r hr)
 obtain⟨a1,c1,rfl,-,-⟩:=hx
 obtain⟨a2,c2,rfl,-,-⟩:=hy
 clear hs
 generalize (wd 18446744073709551616 X).length=nx at *
 generalize (wd 18446744073709551616 Y).length=ny at *
 by_cases h1:Y=1
 ·subst h1
  rw[Nat.div_one]
  go_enter func92,ntmps92
  go_wp2_with fail
  refine (za HO true (by show true=_;simp)).mono ?_
  rintro e w1 ⟨rfl,hw⟩
  obtain rfl:=hw.symm
  clear hw
  go_wp2
  go_ret
  exact⟨_,rfl,za HX,But.refl _ _⟩
 ·go_enter func92,ntmps92
  go_wp2_with fail
  refine (za HO false (by show false=_;simp[h1])).mono ?_
  rintro e w1 ⟨rfl,hw⟩
  obtain rfl:=hw.symm
  clear hw
  go_wp2_with fail
  refine (za HQ).mono ?_
  rintro e w2 ⟨v1,v2,rfl,hv1,-,hb2,-⟩
  have ALL:=hide (And.intro hv1 hb2)
  clear hv1 hb2
  go_wp2
  go_ret
  exact⟨v1,rfl,(za ALL).1,(za ALL).2⟩
end Go.Proofs.YtcgecpoedojhjaaGreatDoor
namespace Go.Proofs
open Go.Proofs.Tryz
open Go.Shelf
def Tryz.lays283_ren : Go.Shelf.Ren := ⟨fun | 283 => 140 | n => n, fun | 3 => 3 | 4 => 4 | 9 => 9 | n => n, fun | n => n⟩
theorem Tryz.lays283 : Go.Proofs.Lays.n283 Tryz.prog Tryz.lays283_ren := {
  mixed := by kernel_rfl
  f283 := Tryz.func140.trans (congrArg some (by kernel_rfl))
  t3 := Tryz.underlying3
  a3 := Tryz.isAgg3
  z3 := Tryz.sizeOf3
  v3 := Tryz.zeroValue3
  t4 := Tryz.underlying4
  a4 := Tryz.isAgg4
  z4 := Tryz.sizeOf4
  v4 := Tryz.zeroValue4
  t9 := Tryz.underlying9
  a9 := Tryz.isAgg9
  z9 := Tryz.sizeOf9
  v9 := Tryz.zeroValue9 }
open Go.Lib in
theorem Tryz.internal_strconv_small (i:Nat) (h:i<100) (w:World) :
  Calls prog 140 #[.int .i64 i] w fun e w'=>e=.returned (.string ⟨(Lib.decDigits i).toArray⟩)∧w'=w:=Any.internal_strconv_small Tryz.lays283 i h w
def Tryz.laysM284_ren : Go.Shelf.Ren := ⟨fun | 129 => 173 | 284 => 141 | 317 => 172 | 318 => 174 | n => n, fun | 0 => 0 | 3 => 3 | 4 => 4 | 5 => 5 | 9 => 9 | 46 => 190 | 53 => 32 | 212 => 237 | n => n, fun | 17 => 5 | n => n⟩
theorem Tryz.laysM284 : Go.Proofs.LaysM.n284 Tryz.prog Tryz.laysM284_ren := {
  mixed := by kernel_rfl
  f129 := Tryz.func173.trans (congrArg some (by kernel_rfl))
  f284 := Tryz.func141.trans (congrArg some (by kernel_rfl))
  f317 := Tryz.func172.trans (congrArg some (by kernel_rfl))
  f318 := Tryz.func174.trans (congrArg some (by kernel_rfl))
  t0 := Tryz.underlying0
  a0 := Tryz.isAgg0
  z0 := Tryz.sizeOf0
  v0 := Tryz.zeroValue0
  t3 := Tryz.underlying3
  a3 := Tryz.isAgg3
  z3 := Tryz.sizeOf3
  v3 := Tryz.zeroValue3
  t4 := Tryz.underlying4
  a4 := Tryz.isAgg4
  z4 := Tryz.sizeOf4
  v4 := Tryz.zeroValue4
  t5 := Tryz.underlying5
  a5 := Tryz.isAgg5
  z5 := Tryz.sizeOf5
  v5 := Tryz.zeroValue5
  t9 := Tryz.underlying9
  a9 := Tryz.isAgg9
  z9 := Tryz.sizeOf9
  v9 := Tryz.zeroValue9
  t46 := Tryz.underlying190
  a46 := Tryz.isAgg190
  z46 := Tryz.sizeOf190
  v46 := Tryz.zeroValue190
  t53 := Tryz.underlying32
  a53 := Tryz.isAgg32
  z53 := Tryz.sizeOf32
  v53 := Tryz.zeroValue32
  t212 := Tryz.underlying237
  a212 := Tryz.isAgg237
  z212 := Tryz.sizeOf237
  v212 := Tryz.zeroValue237
  g17 := by kernel_rfl
  m17 := by kernel_rfl
  i0 := by kernel_rfl
  i3 := by kernel_rfl
  i4 := by kernel_rfl
  i5 := by kernel_rfl
  i9 := by kernel_rfl
  i46 := by kernel_rfl
  i53 := by kernel_rfl
  i212 := by kernel_rfl }
open Go.Lib in
theorem Tryz.internal_strconv_numDigits (u:Nat) (h1:1≤u) (h2:u<18446744073709551616) (w:World) (htab:Lib.TabIs prog w "internal/strconv.uint64pow10" .u64 Lib.pow10Tab) :
  Calls prog 141 #[.int .u64 u] w fun e w'=>e=.returned (.int .i64 (Lib.nDigits u))∧w'=w:=Any.internal_strconv_numDigits Tryz.laysM284 u h1 h2 w htab
def Tryz.lays285_ren : Go.Shelf.Ren := ⟨fun | 285 => 142 | n => n, fun | 0 => 0 | 3 => 3 | 4 => 4 | 5 => 5 | 9 => 9 | 37 => 47 | 51 => 227 | 53 => 32 | n => n, fun | n => n⟩
theorem Tryz.lays285 : Go.Proofs.Lays.n285 Tryz.prog Tryz.lays285_ren := {
  mixed := by kernel_rfl
  f285 := Tryz.func142.trans (congrArg some (by kernel_rfl))
  t0 := Tryz.underlying0
  a0 := Tryz.isAgg0
  z0 := Tryz.sizeOf0
  v0 := Tryz.zeroValue0
  t3 := Tryz.underlying3
  a3 := Tryz.isAgg3
  z3 := Tryz.sizeOf3
  v3 := Tryz.zeroValue3
  t4 := Tryz.underlying4
  a4 := Tryz.isAgg4
  z4 := Tryz.sizeOf4
  v4 := Tryz.zeroValue4
  t5 := Tryz.underlying5
  a5 := Tryz.isAgg5
  z5 := Tryz.sizeOf5
  v5 := Tryz.zeroValue5
  t9 := Tryz.underlying9
  a9 := Tryz.isAgg9
  z9 := Tryz.sizeOf9
  v9 := Tryz.zeroValue9
  t37 := Tryz.underlying47
  a37 := Tryz.isAgg47
  z37 := Tryz.sizeOf47
  v37 := Tryz.zeroValue47
  t51 := Tryz.underlying227
  a51 := Tryz.isAgg227
  z51 := Tryz.sizeOf227
  v51 := Tryz.zeroValue227
  t53 := Tryz.underlying32
  a53 := Tryz.isAgg32
  z53 := Tryz.sizeOf32
  v53 := Tryz.zeroValue32 }
open Go.RowKit Go.Sort Go.Lib in
theorem Tryz.internal_strconv_formatBase10 (blk off cap:Nat) (u:Nat) (d:Array UInt8) (w:World) (hH:Holds (fun (b:UInt8)=>Value.int .u8 (b.toNat:Int)) w blk off d) (hu:u<10^d.size) (hu64:u<18446744073709551616) (hsz:d.size<4611686018427387904) :
  Calls prog 142 #[.slice (some ⟨blk,off,none⟩) d.size cap,.int .u64 u] w fun e w' =>
   e=.returned (.tuple #[])∧∃ (n v':Nat) (dk:Array UInt8),w'=(putRow (fun (b:UInt8)=>Value.int .u8 (b.toNat:Int)) w blk off dk).drewN n∧FmtInv d.size u 0 v' dk:=Any.internal_strconv_formatBase10 Tryz.lays285 blk off cap u d w hH hu hu64 hsz
def Tryz.lays125_ren : Go.Shelf.Ren := ⟨fun | 125 => 149 | 128 => 180 | 129 => 173 | n => n, fun | 3 => 3 | 4 => 4 | 5 => 5 | 9 => 9 | 46 => 190 | 51 => 227 | 53 => 32 | n => n, fun | n => n⟩
theorem Tryz.lays125 : Go.Proofs.Lays.n125 Tryz.prog Tryz.lays125_ren := {
  mixed := by kernel_rfl
  f125 := Tryz.func149.trans (congrArg some (by kernel_rfl))
  f128 := Tryz.func180.trans (congrArg some (by kernel_rfl))
  f129 := Tryz.func173.trans (congrArg some (by kernel_rfl))
  t3 := Tryz.underlying3
  a3 := Tryz.isAgg3
  z3 := Tryz.sizeOf3
  v3 := Tryz.zeroValue3
  t4 := Tryz.underlying4
  a4 := Tryz.isAgg4
  z4 := Tryz.sizeOf4
  v4 := Tryz.zeroValue4
  t5 := Tryz.underlying5
  a5 := Tryz.isAgg5
  z5 := Tryz.sizeOf5
  v5 := Tryz.zeroValue5
  t9 := Tryz.underlying9
  a9 := Tryz.isAgg9
  z9 := Tryz.sizeOf9
  v9 := Tryz.zeroValue9
  t46 := Tryz.underlying190
  a46 := Tryz.isAgg190
  z46 := Tryz.sizeOf190
  v46 := Tryz.zeroValue190
  t51 := Tryz.underlying227
  a51 := Tryz.isAgg227
  z51 := Tryz.sizeOf227
  v51 := Tryz.zeroValue227
  t53 := Tryz.underlying32
  a53 := Tryz.isAgg32
  z53 := Tryz.sizeOf32
  v53 := Tryz.zeroValue32 }
theorem Tryz.bits_Len (x:Int) (w:World) (h0:0≤x) (h1:x≤18446744073709551615) :
  Calls prog 149 #[.int .u64 x] w fun e w'=>e=.returned (.int .i64 (Lib.bitLen x.toNat))∧w'=w:=Any.bits_Len Tryz.lays125 x w h0 h1
end Go.Proofs
namespace Go.Proofs.YtcgecpoedojhjaaGreatDoor
open Go.Proofs.Tryz
open Go.RowKit
set_option maxHeartbeats 4000000
set_option maxRecDepth 100000
theorem qfv (a:Nat) (ha:a<9223372036854775808):bits .and .i64 (a:Int) 1=((a%2:Nat):Int):=by
 have h1:(BitVec.ofInt 64 (a:Int)).toNat=a:=by
  rw[BitVec.ofInt_natCast,BitVec.toNat_ofNat];exact Nat.mod_eq_of_lt (by omega)
 have h2:(BitVec.ofInt 64 (1:Int)).toNat=1:=rfl
 show IntKind.i64.wrap ((BitVec.ofInt 64 (a:Int) &&& BitVec.ofInt 64 (1:Int)).toNat:Int)=_
 rw[BitVec.toNat_and,h1,h2,Nat.and_one_is_mod,IntKind.wrap_i64]
 omega
theorem zhi (n i:Nat):n/2^i=2*(n/2^(i+1))+n/2^i%2:=by
 rw[Nat.pow_succ,← Nat.div_div_eq_div_mul];omega
theorem pow_even (X n i:Nat) (h:n/2^i%2=0):X^(n/2^(i+1))*X^(n/2^(i+1))=X^(n/2^i):=by
 rw[zhi n i,h,← Nat.pow_add];congr 1;omega
theorem pow_odd (X n i:Nat) (h:n/2^i%2=1):X^(n/2^(i+1))*X^(n/2^(i+1))*X=X^(n/2^i):=by
 rw[zhi n i,h,← Nat.pow_add,← Nat.pow_succ];congr 1;omega
theorem qab (n:Nat) (h:n < 18446744073709551616):n<2^Lib.bitLen n∧Lib.bitLen n≤64:=by
 by_cases h0:n=0
 ·subst h0;exact⟨by decide,by decide⟩
 ·exact⟨(Lib.bitLenAux_bounds 64 n h h0).2.2,Lib.bitLen_le n 64 (by omega) h⟩
theorem zvs (v:Value) (X n:Nat) (w:World) (hv:Sl .u64 w v (wd 18446744073709551616 X)) (hX:0<X) (hn:n<2147483648) (hl:(wd 18446744073709551616 X).length+(wd 18446744073709551616 (X^n)).length<67108864) :
  Calls prog 116 #[v,.int .i64 (n:Int)] w fun e w'=>∃ v',e=.returned v'∧Sl .u64 w' v' (wd 18446744073709551616 (X^n))∧But [] w w':=by
 obtain⟨L,hL⟩:∃ L,L=Lib.bitLen n:=⟨_,rfl⟩
 have hb:=qab n (by omega)
 have BL:=hide (fun W=>Tryz.bits_Len (n:Int) W (by omega) (by omega))
 rw[Int.toNat_natCast,← hL] at BL
 rw[← hL] at hb
 obtain⟨hb1,hb2⟩:=hb
 have hlen:Hid (∀ i,(wd 18446744073709551616 (X^(n/2^i))).length<67108864∧(wd 18446744073709551616 X).length+(wd 18446744073709551616 (X^(n/2^i))).length<67108864):=fun i=>by
  have:=zu (Nat.pow_le_pow_right hX (Nat.div_le_self n (2^i)))
  omega
 have hlen2:Hid (∀ i,(wd 18446744073709551616 (X^(n/2^(i+1))*X^(n/2^(i+1)))).length+(wd 18446744073709551616 X).length<67108864):=fun i=>by
  rw[← Nat.pow_add]
  have h3:=zhi n i
  have h4:=Nat.div_le_self n (2^i)
  have:=zu (Nat.pow_le_pow_right hX (show n/2^(i+1)+n/2^(i+1)≤n from by omega))
  omega
 have HV:=hide hv
 have hdiv:n/2^L=0:=Nat.div_eq_of_lt hb1
 have hst:Hid ((1:Nat)=X^(n/2^L)):=by show _=_;rw[hdiv,Nat.pow_zero]
 clear hv hl hdiv hb1 hL
 obtain⟨xa,xc,rfl,-,-⟩:=za HV
 generalize hnx:(wd 18446744073709551616 X).length=nx at *
 have HNX:=hide hnx
 clear hnx
 go_enter func116,ntmps116
 go_wp2_with fail
 refine (jo 1 (by omega) _).mono ?_
 rintro e w1 ⟨v1,rfl,hv1,hb1,-⟩
 have H1:=hide hv1
 have B1:=hide hb1
 clear hv1 hb1
 go_wp2_with fail
 refine (za BL _).mono ?_
 rintro e w2 ⟨rfl,hw⟩
 obtain rfl:=hw.symm
 clear hw
 go_wp2
 go_loopw [5,6] (fun o i wr=>∃ k:Nat,k≤L∧i=.int .i64 ((k:Int)-1)∧Hid (Sl .u64 wr o (wd 18446744073709551616 (X^(n/2^k)))∧But [] w wr)) (fun _ i _=>(intOf i+1).toNat)
 case atStart=>exact⟨L,Nat.le_refl _,rfl,by rw[← za hst];exact za H1,za B1⟩
 case round =>
  obtain⟨k,hk,rfl,HI⟩:=hrel
  rename World=>wr
  by_cases hk0:k=0
  ·subst hk0
   go_wp2
   go_ret
   have h:=(za HI).1
   rw[Nat.pow_zero,Nat.div_one] at h
   exact⟨_,rfl,h,(za HI).2⟩
  ·obtain⟨i,rfl⟩:∃ i,k=i+1:=⟨k-1,by omega⟩
   rw[show (((i+1:Nat):Int)-1)=(i:Int) from by omega]
   have hq:n/2^i<9223372036854775808:=by have:=Nat.div_le_self n (2^i);omega
   have E1:bits .and .i64 ((n:Int)/2^i) 1=((n/2^i%2:Nat):Int):=by
    have e:(n:Int)/2^i=((n/2^i:Nat):Int):=by simp
    rw[e,qfv _ hq]
   obtain⟨a,c,ho⟩:∃ a c,u5=.slice a (wd 18446744073709551616 (X^(n/2^(i+1)))).length c:=by obtain⟨a,c,e,-,-⟩:=(za HI).1;exact⟨a,c,e⟩
   have MU:=hide (jh u5 u5 _ _ wr (za HI).1 (za HI).1 (by have:=(za hlen (i+1)).1;omega))
   have L2:=hide (za hlen2 i)
   subst ho
   generalize hm:(wd 18446744073709551616 (X^(n/2^(i+1)))).length=m at *
   clear hm
   rcases Nat.mod_two_eq_zero_or_one (n/2^i) with hpar | hpar
   ·have e1:(((n/2^i%2:Nat):Int)==1)=false:=by rw[hpar];rfl
    have EV:=hide (pow_even X n i hpar)
    generalize n/2^i%2=b at *
    go_wp2_with fail
    refine (za MU).mono ?_
    rintro e w3 ⟨v3,rfl,hv3,hb3,-⟩
    rw[za EV] at hv3
    have H3:=hide hv3
    have B3:Hid (But [] w w3):=(za HI).2.trans' hb3
    clear hv3 hb3
    go_wp2
    refine⟨⟨i,by omega,rfl,za H3,za B3⟩,?_⟩
    simp[intOf]
   ·have e1:(((n/2^i%2:Nat):Int)==1)=true:=by rw[hpar];rfl
    have EV:=hide (pow_odd X n i hpar)
    generalize n/2^i%2=b at *
    go_wp2_with fail
    refine (za MU).mono ?_
    rintro e w3 ⟨v3,rfl,hv3,hb3,-⟩
    have B3:Hid (But [] w w3):=(za HI).2.trans' hb3
    have MX:=hide (jh v3 (.slice xa nx xc) _ X w3 hv3 ((za HV).ze (za B3)) (by rw[za HNX];have:=za L2;omega))
    obtain⟨a3,c3,e3,-,-⟩:=hv3
    subst e3
    clear hb3
    rw[za EV] at MX
    generalize (wd 18446744073709551616 (X^(n/2^(i+1))*X^(n/2^(i+1)))).length=m3 at *
    go_wp2_with fail
    refine (za MX).mono ?_
    rintro e w4 ⟨v4,rfl,hv4,hb4,-⟩
    have H4:=hide hv4
    have B4:Hid (But [] w w4):=(za B3).trans' hb4
    clear hv4 hb4
    go_wp2
    refine⟨⟨i,by omega,rfl,za H4,za B4⟩,?_⟩
    simp[intOf]
theorem Row.but {k:IntKind} {w w':World} {g:Nat} {rs:List Nat} {l:List Nat} (h:Row k w g rs) (hb:But l w w') (hn:g ∉ l):Row k w' g rs:=fun i hi=>by
 obtain⟨h1,h2⟩:=h i hi
 have hl:=lt_of_cell h1
 exact⟨hb.zb h1 hn,(hb.frozen hl hn).trans h2⟩
theorem zhv (g cap:Nat) (bs:List Nat) (w:World) (hr:Row .u8 w g bs) (h0:0<bs.length) (hl:bs.length<1073741824) :
  Calls prog 144 #[.slice (some ⟨g,0,none⟩) bs.length cap] w fun e w'=>e=.returned (.tuple #[])∧Row .u8 w' g bs.reverse∧But [g] w w':=by
 have mixed:prog.follows .mixedOrders=true:=by kernel_rfl
 have HR:=hide hr
 clear hr
 obtain⟨n,hn⟩:∃ n,n=bs.length:=⟨_,rfl⟩
 rw[← hn] at h0 hl ⊢
 have HN:=hide hn
 clear hn
 go_enter func144,ntmps144
 go_wp2
 go_loopw [2,3] (fun i j wq=>∃ (k q:Nat) (cs:List Nat),i=.int .i64 k∧j=.int .i64 q∧k≤q+1∧Hid (k+q+1=n∧zco bs cs k∧Row .u8 wq g cs∧But [g] w wq)) (fun i _ _=>n-(intOf i).toNat)
 case atStart=>exact⟨0,n-1,bs,rfl,by congr 1;omega,by omega,by omega,zco.start _,za HR,But.refl _ _⟩
 case round =>
  obtain⟨k,q,cs,rfl,rfl,hkq,HJ⟩:=hrel
  rename World=>wq
  have hcl:cs.length=n:=by rw[(za HJ).2.1.len,za HN]
  have hsum:=(za HJ).1
  by_cases hlt:k<q
  ·obtain⟨ck,fk⟩:=(za HJ).2.2.1 k (by omega)
   obtain⟨cq,fq⟩:=(za HJ).2.2.1 q (by omega)
   have ST:=hide ((za HJ).2.1.step (by rw[← za HN];omega))
   have hq:q=n-1-k:=by omega
   rw[← za HN,← hq] at ST
   have HC:=hide hcl
   have HS:=hide hsum
   have ne1:k≠q:=by omega
   have hk1:k<n:=by omega
   have hq1:q<n:=by omega
   clear hcl hsum hq
   generalize hx:cs[k]?.getD 0=x at *
   generalize hy:cs[q]?.getD 0=y at *
   clear hx hy
   go_wp2_with fail
   go_region_o
   go_wp2
   refine⟨⟨k+1,q-1,(cs.set k y).set q x,by go_num,by rw[Int.ofNat_sub (by omega)];rfl,by omega,by have:=za HS;omega,za ST,?_,?_⟩,?_⟩
   ·exact (((za HJ).2.2.1.set k (by rw[za HC];have:=za HS;omega) y).set q (by rw[List.length_set,za HC];have:=za HS;omega) x).but ((But.refl [] _).drew) (by simp)
   ·exact (((za HJ).2.2.2.setCell (p:=⟨g,k,none⟩) (.inl (by simp)) (.int .u8 (y:Int))).setCell (p:=⟨g,q,none⟩) (.inl (by simp)) (.int .u8 (x:Int))).drew
   ·have:=za HS
    simp[intOf];omega
  ·have hfin:cs=bs.reverse:=(za HJ).2.1.fin (by rw[← za HN];omega)
   have HF:=hide hfin
   clear hfin hcl hsum
   go_wp2
   go_end0
   exact⟨rfl,by rw[← za HF];exact (za HJ).2.2.1,(za HJ).2.2.2⟩
theorem qbg:(10:Nat)^608 < 18446744073709551616^33:=by decide +kernel
theorem zbi (w:World) (base:Nat) (v:Value) (ds:List UInt8) (hown:w.ownsRow base 5 1 v ds.length (ds.map u8v)) (a:Addr) (d:UInt8) (hc:w.cell? a=some (u8v d)) (hl:ds.length<1073741824) (hb:base≤w.heap.size) :
  ∃ v' w',(Builtin.append_ #[47,47] 47 #[v,.slice (some a) 1 1]).run prog w=.ok v' w'∧w'.ownsRow base 5 1 v' (ds++[d]).length ((ds++[d]).map u8v)∧w.grownBy w' v.ownBlock∧(v'.ownBlock=v.ownBlock∨∀ k,v'.ownBlock=some k→w.heap.size≤k):=by
 obtain⟨i0,hi,hz0,hz1,hz2⟩:=zqu
 have hnews:∀ j u,[u8v d][j]? = some u→w.cell? (a.add j)=some u:=fun j u hj=>by
  cases j with
  | zero=>simp at hj;subst hj;rw[show a.add 0=a from by simp[Addr.add]];exact hc
  | succ j=>simp at hj
 have h1:∀ u ∈ [u8v d],u.oneCell'=true:=fun u hu=>by simp at hu;subst hu;rfl
 have hrun:=fun (base:Nat) (ho:w.ownsRow base 5 1 v ds.length (ds.map u8v)) (hb:base≤w.heap.size)=>run_append_own (P:=prog) w base 47 47 5 i0 (.int .u8 0) 1 1 underlying47 hi hz0 hz1 hz2 rfl (by decide) v ds.length (ds.map u8v) ho a 1 1 [u8v d] rfl hnews h1 (by unfold maxLen;omega) (by omega) hb
 obtain⟨v',w',hr,ho',hg',-⟩:=hrun base hown hb
 refine⟨v',w',hr,by rw[List.length_append,List.map_append];exact ho',hg',?_⟩
 rcases hown.2 with ⟨rfl,-⟩|⟨g,cap,cur,rfl,-,hgc,hnc,hcm,hcs,htake⟩
 ·have hd:ds=[]:=by
   obtain⟨hx,hy|⟨g,cap,cur,e,-⟩⟩:=hown
   ·exact List.eq_nil_of_length_eq_zero hy.2
   ·simp at e
  subst hd
  obtain⟨v2,w2,hr2,ho2,-,-⟩:=hrun w.heap.size (World.ownsRow_nil _ _ _ _) (Nat.le_refl _)
  rw[hr] at hr2
  simp only[Result.ok.injEq] at hr2
  obtain⟨rfl,rfl⟩:=hr2
  exact .inr fun k hk=>(ho2.lt k hk).1
 ·by_cases hroom:ds.length+1≤cap
  ·have h2:=run_append_room (P:=prog) w 47 47 5 i0 underlying47 hi g ds.length cap cur hgc a 1 1 [u8v d] (by rw[hz1];rfl) hnews h1 hroom (by rw[hz1,hcs];simp;omega)
   rw[hr] at h2
   simp only[Result.ok.injEq] at h2
   rw[h2.1]
   exact .inl rfl
  ·have h2:=run_append_grow (P:=prog) w 47 47 5 i0 (.int .u8 0) underlying47 hi hz0 ⟨g,0,none⟩ ds.length cap (ds.map u8v) (by rw[hz1];simp) (hown.cells rfl) a 1 1 [u8v d] (by rw[hz1];rfl) hnews (by omega) (by omega) (growslice_fits (by omega) (by rw[hz2];omega))
   rw[hr] at h2
   simp only[Result.ok.injEq] at h2
   rw[h2.1]
   refine .inr fun k hk=>?_
   simp only[Value.ownBlock,Option.some.injEq] at hk
   omega
def qm (j:Nat):Nat:=10^(608*2^j)
theorem zoo:qm 0=10^608:=by unfold qm;rw[Nat.pow_zero,Nat.mul_one]
theorem zee (j:Nat):qm (j+1)=qm j*qm j:=by
 unfold qm
 rw[← Nat.pow_add,Nat.pow_succ,← Nat.mul_two,Nat.mul_assoc]
theorem zki (j:Nat):0<qm j:=Nat.pow_pos (by omega)
theorem qgz (j:Nat):j<qm j:=by
 unfold qm
 have h1:j<2^j:=Nat.lt_two_pow_self
 have h2:608*2^j<10^(608*2^j):=Nat.lt_pow_self (by omega)
 omega
theorem zkj (X j n:Nat) (hl:(wd 18446744073709551616 X).length≤n) (h:qm j≤X):1824*2^j<64*n:=by
 have h1:X < 18446744073709551616^n:=zw (by omega) X _ hl
 have h2:(2:Nat)^(1824*2^j)≤qm j:=by
  unfold qm
  have e:(2:Nat)^(1824*2^j)=(2^3)^(608*2^j):=by rw[← Nat.pow_mul,← Nat.mul_assoc]
  rw[e]
  exact Nat.pow_le_pow_left (by omega) _
 have h3:(18446744073709551616:Nat)^n=2^(64*n):=by rw[Nat.pow_mul]
 rw[h3] at h1
 have h4:(2:Nat)^(1824*2^j)<2^(64*n):=Nat.lt_of_le_of_lt h2 (Nat.lt_of_le_of_lt h h1)
 exact (Nat.pow_lt_pow_iff_right (by omega:1<2)).1 h4
theorem qfu:∃ i,prog.info? 101 = some i∧i.zero=some (.slice none 0 0)∧i.size=1∧i.bytes=24:=by
 have h:(prog.info? 101).map (fun i=>(i.zero,i.size,i.bytes))=some (some (.slice none 0 0),1,24):=by kernel_rfl
 obtain⟨i,hi,he⟩:=Option.map_eq_some_iff.1 h
 simp only[Prod.mk.injEq] at he
 exact⟨i,hi,he.1,he.2.1,he.2.2⟩
theorem zoa {w w':World} {base:Nat} {e:TypeId} {vo:Value} {n:Nat} {xs:List Value} (ho:w.ownsRow base e 1 vo n xs) (hn:vo=.slice none 0 0∨∃ u,xs[0]? = some u∧∀ m:Int,u≠.int .u64 m) (hg:w.grownBy w' vo.ownBlock):yu w w':=by
 intro v ws hs
 cases hb:vo.ownBlock with
 | none=>rw[hb] at hg;exact hs.ze (zau hg)
 | some g =>
  rw[hb] at hg
  rcases hn with rfl|⟨u,hu,hne⟩
  ·simp[Value.ownBlock] at hb
  ·have hc:=ho.cells hb 0 u hu
   rw[show (⟨g,0,none⟩:Addr).add 0=⟨g,0,none⟩ from by simp[Addr.add]] at hc
   exact hs.over (zhj hg) hc hne
structure zbj (w:World) (X:Nat) (us:List Value) (vo vp:Value) (wr:World):Prop where
 own:wr.ownsRow w.heap.size 101 1 vo us.length us
 all:∀ j u,us[j]? = some u→Sl .u64 wr u (wd 18446744073709551616 (qm j))
 pow:Sl .u64 wr vp (wd 18446744073709551616 (qm us.length))
 but:But [] w wr
 low:∀ j,j<us.length→qm j≤X
 nil:vo=.slice none 0 0∨0<us.length
theorem zbj.le {w:World} {X:Nat} {us:List Value} {vo vp:Value} {wr:World} (h:zbj w X us vo vp wr):us.length≤X:=by
 rcases Nat.eq_zero_or_pos us.length with h0 | h0
 ·omega
 ·have h1:=h.low (us.length-1) (by omega)
  have h2:=qgz (us.length-1)
  omega
theorem zbj.first {w:World} {X:Nat} {us:List Value} {vo vp:Value} {wr:World} (h:zbj w X us vo vp wr):vo=.slice none 0 0∨∃ u,us[0]? = some u∧∀ m:Int,u≠.int .u64 m:=by
 rcases h.nil with h0 | h0
 ·exact .inl h0
 ·refine .inr ⟨us[0],List.getElem?_eq_getElem h0,fun m e=>?_⟩
  have:=h.all 0 us[0] (List.getElem?_eq_getElem h0)
  rw[e] at this
  obtain⟨a,c,h1,-⟩:=this
  simp at h1
theorem zbj.drewN {w:World} {X:Nat} {us:List Value} {vo vp:Value} {wr:World} (h:zbj w X us vo vp wr) (q:Nat):zbj w X us vo vp (wr.drewN q) :=
 ⟨zan h.own ((But.refl [] _).drewN q),fun j u hj=>(h.all j u hj).ze ((But.refl [] _).drewN q),h.pow.ze ((But.refl [] _).drewN q),h.but.drewN q,h.low,h.nil⟩
theorem zbj.qui {w:World} {X:Nat} {us:List Value} {vo vp:Value} {wr:World} (h:zbj w X us vo vp wr):(wd 18446744073709551616 (qm us.length)).length≤(wd 18446744073709551616 X).length+(wd 18446744073709551616 X).length+33:=by
 rcases Nat.eq_zero_or_pos us.length with h0 | h0
 ·rw[h0,zoo]
  have:=zt (B:=18446744073709551616) (by omega) _ _ qbg
  omega
 ·obtain⟨j,hj⟩:∃ j,us.length=j+1:=⟨us.length-1,by omega⟩
  have h1:=zu (h.low j (by omega))
  have h2:=ja (qm j) (qm j)
  rw[hj,zee]
  omega
theorem zbj.more {w:World} {X:Nat} {us:List Value} {vo vp:Value} {wr:World} (h:zbj w X us vo vp wr) (hle:qm us.length≤X) (hul:us.length<35088) (W:World) (hW:W=wr.alloc (.cells #[vp] 101)) :
  ∃ v3 w3,(Builtin.append_ #[158,158] 158 #[vo,.slice (some ⟨wr.heap.size,0,none⟩) 1 1]).run prog W=.ok v3 w3∧w3.ownsRow w.heap.size 101 1 v3 (us++[vp]).length (us++[vp])∧(∀ j u,(us++[vp])[j]? = some u→Sl .u64 w3 u (wd 18446744073709551616 (qm j)))∧Sl .u64 w3 vp (wd 18446744073709551616 (qm us.length))∧But [] w w3∧(∀ j,j<(us++[vp]).length→qm j≤X)∧yu wr w3:=by
 obtain⟨i0,hi,hz0,hz1,hz2⟩:=qfu
 subst hW
 have hp1:vp.oneCell'=true:=by
  obtain⟨a,c,rfl,-⟩:=h.pow
  rfl
 have hc:(wr.alloc (.cells #[vp] 101)).cell? ⟨wr.heap.size,0,none⟩=some vp:=by simp
 have hbs:=h.but.size
 obtain⟨v3,w3,hr,ho,hg,-⟩:=run_append_own (P:=prog) (wr.alloc (.cells #[vp] 101)) w.heap.size 158 158 101 i0 (.slice none 0 0) 1 24 underlying158 hi hz0 hz1 hz2 rfl (by decide) vo us.length us (h.own.alloc _) ⟨wr.heap.size,0,none⟩ 1 1 [vp] rfl (fun j u hj=>by
  cases j with
  | zero=>simp at hj;subst hj;rw[show (⟨wr.heap.size,0,none⟩:Addr).add 0=⟨wr.heap.size,0,none⟩ from by simp[Addr.add]];exact hc
  | succ j=>simp at hj) (fun u hu=>by simp at hu;subst hu;exact hp1) (by unfold maxLen;omega) (by omega) (by simp;omega)
 have hK:yu wr w3:=(yu.zgu ((But.refl [] wr).alloc _)).trans (zoa (h.own.alloc _) h.first hg)
 refine⟨v3,w3,hr,by rw[List.length_append];exact ho,fun j u hj=>?_,hK _ _ h.pow,(h.but.alloc _).grown hg (fun k hk=>(h.own.lt k hk).1),fun j hj=>?_,hK⟩
 ·rcases Nat.lt_or_ge j us.length with hl | hl
  ·rw[List.getElem?_append_left hl] at hj
   exact hK _ _ (h.all j u hj)
  ·have he:j=us.length:=by
    have:=(List.getElem?_eq_some_iff.1 hj).1
    simp at this
    omega
   subst he
   simp at hj
   subst hj
   exact hK _ _ h.pow
 ·simp at hj
  rcases Nat.lt_or_ge j us.length with hl | hl
  ·exact h.low j hl
  ·rw[show j=us.length from by omega];exact hle
theorem zns (v:Value) (X:Nat) (w:World) (hv:Sl .u64 w v (wd 18446744073709551616 X)) (hl:(wd 18446744073709551616 X).length≤1000000) :
  Calls prog 84 #[v] w fun e w'=>∃ vo us,e=.returned vo∧w'.ownsRow w.heap.size 101 1 vo us.length us∧(∀ j u,us[j]? = some u→Sl .u64 w' u (wd 18446744073709551616 (qm j)))∧But [] w w'∧(∀ j,j<us.length→qm j≤X)∧X<qm us.length:=by
 have h10:(wd 18446744073709551616 (10^608)).length≤33:=zt (by omega) _ _ qbg
 have h1:(wd 18446744073709551616 10).length≤1:=zt (by omega) _ _ (by omega)
 have PW:Hid (∀ (v1:Value) (W:World),Sl .u64 W v1 (wd 18446744073709551616 10)→Calls prog 116 #[v1,.int .i64 608] W fun e w'=>∃ v',e=.returned v'∧Sl .u64 w' v' (wd 18446744073709551616 (qm 0))∧But [] W w'):=fun v1 W h=>by
  rw[zoo]
  exact zvs v1 10 608 W h (by omega) (by omega) (Nat.lt_of_le_of_lt (Nat.add_le_add h1 h10) (by omega))
 have HV:=hide hv
 have HLX:=hide hl
 clear hv h10 h1 hl
 obtain⟨xa,xc,rfl,-,-⟩:=za HV
 generalize hnx:(wd 18446744073709551616 X).length=nx at *
 have NX:=hide hnx
 clear hnx
 go_enter func84,ntmps84
 go_wp2_with fail
 refine (jo 10 (by omega) _).mono ?_
 rintro e w1 ⟨v1,rfl,hv1,hb1,-⟩
 have H1:=hide hv1
 have B1:=hide hb1
 clear hv1 hb1
 go_wp2_with fail
 refine (za PW v1 _ (za H1)).mono ?_
 rintro e w2 ⟨v2,rfl,hv2,hb2⟩
 have A0:Hid (∃ us,zbj w X us (.slice none 0 0) v2 w2∧X+1+us.length=X+1 ):=⟨[],⟨World.ownsRow_nil _ _ _ _,fun j u h=>by simp at h,hv2,(za B1).trans' hb2,fun j h=>by simp at h,.inl rfl⟩,by simp⟩
 clear hv2 hb2 B1 H1 PW
 go_wp2_with fail
 go_loopg [3,4] (X+1) (fun k vo vp wr=>Hid (∃ us,zbj w X us vo vp wr∧k+us.length=X+1))
 case atStart=>exact A0
 case round =>
  clear A0
  obtain⟨us,hI,hk⟩:=za hrel
  clear hrel
  rename World=>wr
  obtain⟨oa,oc,hoe⟩:=eu hI.own
  have hpl:=hI.qui
  rw[za NX] at hpl
  have hlx:=za HLX
  have CM:=hide (ve _ _ (qm us.length) X wr hI.pow ((za HV).ze hI.but) (by omega) (by rw[za NX];omega))
  obtain⟨pa,pc,hpe,-,-⟩:=id hI.pow
  rcases Nat.lt_or_ge X (qm us.length) with hlt | hge
  ·have hc:q8 (qm us.length) X=1:=by
    rcases zcn (qm us.length) X with ⟨h,-⟩|⟨h,-⟩|⟨-,h⟩
    ·omega
    ·omega
    ·exact h
   rw[hc] at CM
   have FIN:=hide (And.intro hI (And.intro hlt hoe))
   subst hoe hpe
   clear hI hpl hlt hc hk
   generalize (wd 18446744073709551616 (qm us.length)).length=np at *
   go_wp2_with fail
   refine (za CM).mono ?_
   rintro e w3 ⟨rfl,q,rfl⟩
   go_wp2
   go_ret
   exact⟨_,us,rfl,(za FIN).1.own,(za FIN).1.all,(za FIN).1.but.drewN q,(za FIN).1.low,(za FIN).2.1⟩
  ·have hc:q8 (qm us.length) X≤0:=by
    rcases zcn (qm us.length) X with ⟨-,h⟩|⟨-,h⟩|⟨h,-⟩
    ·omega
    ·omega
    ·omega
   generalize q8 (qm us.length) X=r at *
   have hr:decide (r≤0)=true:=by simp;omega
   have hL:us.length≤X:=hI.le
   have h35:=zkj X us.length nx (by rw[za NX];exact Nat.le_refl _) hge
   have hul:us.length<35088:=Nat.lt_trans Nat.lt_two_pow_self (by omega)
   have HI:=hide hI
   have HR:=hide (And.intro hk (And.intro hL hge))
   obtain⟨np,hnp⟩:∃ np,np=(wd 18446744073709551616 (qm us.length)).length:=⟨_,rfl⟩
   have NP:=hide hnp
   rw[← hnp] at hpe hpl
   have hnp0:0<np:=by
    rw[hnp,Nat.pos_iff_ne_zero];intro e;rw[qo (by omega)] at e
    have:=zki us.length
    omega
   have MO:=hide (fun q=>(hI.drewN q).more hge hul _ rfl)
   have MU:=hide (fun W (h:Sl .u64 W u4 (wd 18446744073709551616 (qm us.length)))=>jh u4 u4 _ _ W h h (by rw[← hnp];omega))
   rw[← zee] at MU
   clear hI hk hL hge h35 hnp hc
   have SH:=hide hoe
   generalize us.length=L at hoe hul
   subst hoe hpe
   have hmul:wrap64 (2*(np:Int))=2*(np:Int):=by unfold wrap64;omega
   go_wp2_with fail
   refine (za CM).mono ?_
   rintro e w3 ⟨rfl,q,rfl⟩
   obtain⟨v3,w3,hr3,ho3,ha3,hs3,hb3,hl3,hk3⟩:=za MO q
   have HR3:=hide hr3
   have AL:=hide (And.intro ho3 (And.intro ha3 (And.intro hs3 (And.intro hb3 hl3))))
   clear hr3 ho3 ha3 hs3 hb3 hl3 hk3 MO
   by_cases hbr:nx<2*np-1
   ·have hbi:(nx:Int)<2*(np:Int)-1:=by omega
    have FIN:Hid (X<qm (us++[Value.slice pa np pc]).length):=by
     have h1:X < 18446744073709551616^nx:=zw (by omega) X _ (Nat.le_of_eq (za NX))
     have h2:18446744073709551616^(np-1)≤qm us.length:=by
      rcases Nat.lt_or_ge (qm us.length) (18446744073709551616^(np-1)) with h | h
      ·have:=zt (B:=18446744073709551616) (by omega) _ _ h
       rw[← za NP] at this
       omega
      ·exact h
     show _<_
     rw[List.length_append,List.length_singleton,zee]
     refine Nat.lt_of_lt_of_le h1 (Nat.le_trans ?_ (Nat.mul_le_mul h2 h2))
     rw[← Nat.pow_add]
     exact Nat.pow_le_pow_right (by omega) (by omega)
    clear HI MU CM HR NP SH
    go_wp2_with (at_builtin;refine ky rfl _ _ 158 158 rfl _ _ v3 w3 rfl rfl (za HR3) ?_)
    go_ret
    exact⟨v3,_,rfl,(za AL).1,(za AL).2.1,(za AL).2.2.2.1,(za AL).2.2.2.2,za FIN⟩
   ·have hbi:¬ ((nx:Int)<2*(np:Int)-1):=by omega
    clear CM
    go_wp2_with (at_builtin;refine ky rfl _ _ 158 158 rfl _ _ v3 w3 rfl rfl (za HR3) ?_)
    go_wp2_with fail
    refine (za MU _ (za AL).2.2.1).mono ?_
    rintro e w4 ⟨v4,rfl,hv4,hb4,-⟩
    have R:Hid (∃ us',zbj w X us' v3 v4 w4∧gk-1+us'.length=X+1):=by
     refine⟨_,⟨zan (za AL).1 hb4,fun j u hj=>((za AL).2.1 j u hj).ze hb4,?_,(za AL).2.2.2.1.trans' hb4,(za AL).2.2.2.2,.inr (by simp)⟩,?_⟩
     ·rw[List.length_append,List.length_singleton];exact hv4
     ·have:=za HR
      rw[List.length_append,List.length_singleton]
      omega
    have GK:Hid (0<gk):=by have:=za HR;show _<_;omega
    clear hv4 hb4 AL HI HR MU NP
    go_wp2
    go_roundg (gk-1)
    case measure=>have:=za GK;omega
    case rel=>exact za R
end Go.Proofs.YtcgecpoedojhjaaGreatDoor
