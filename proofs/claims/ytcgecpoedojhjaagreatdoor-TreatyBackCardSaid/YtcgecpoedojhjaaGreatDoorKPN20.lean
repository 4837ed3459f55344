/- Two numbers are lessened, as the Go text -/
import Derived.Deep.LoopGhost
import Derived.Test.YtcgecpoedojhjaaGreatDoorKPF1
import Derived.Test.YtcgecpoedojhjaaGreatDoorKPN17a
import Derived.Test.YtcgecpoedojhjaaGreatDoorKPN17b
import Derived.Test.YtcgecpoedojhjaaGreatDoorKPN19
namespace Go.Proofs.YtcgecpoedojhjaaGreatDoor
open Go.Proofs.Tryz
open Go.RowKit
set_option maxHeartbeats 8000000
set_option maxRecDepth 100000
theorem zxb (X m:Nat) (h:(wd 18446744073709551616 X).length=m+2):X=vl 18446744073709551616 ((wd 18446744073709551616 X).take m) + 18446744073709551616^m*((wd 18446744073709551616 X)[m]?.getD 0 + 18446744073709551616*(wd 18446744073709551616 X)[m+1]?.getD 0):=by
 have e:=zak 18446744073709551616 (wd 18446744073709551616 X) m (by omega)
 rw[drop_one _ (m+1) (by omega),zun,xh (by omega)] at e
 exact e
theorem qim (X m:Nat) (h:(wd 18446744073709551616 X).length=m+1):X=vl 18446744073709551616 ((wd 18446744073709551616 X).take m) + 18446744073709551616^m*((wd 18446744073709551616 X)[m]?.getD 0 + 18446744073709551616*0):=by
 have e:=zak 18446744073709551616 (wd 18446744073709551616 X) m (by omega)
 rw[List.drop_eq_nil_of_le (by omega),vl,xh (by omega)] at e
 exact e
theorem qgy (x1 x0 n:Nat) (hn:n≤63) (hx0:x0 < 18446744073709551616) (h:x1*2^n < 18446744073709551616):x1*2^n+x0/2^(64-n) < 18446744073709551616:=by
 have hp:18446744073709551616=2^(64-n)*2^n:=by rw[← Nat.pow_add,show (64-n)+n=64 from by omega]
 have h5:(x1+1)*2^n≤18446744073709551616:=by
  rw[hp] at h ⊢
  exact Nat.mul_le_mul_right _ (Nat.lt_of_mul_lt_mul_right h)
 rw[Nat.add_mul,Nat.one_mul] at h5
 have:=(zrz x1 x0 n hn hx0).2
 generalize x0/2^(64-n)=z at *
 generalize x1*2^n=y at *
 generalize 2^n=P at *
 omega
theorem kw.fin' {ps qs ps' qs':List Nat} {c1 c2 c3 c4 n up dn lf rt bo ow:Nat} (h:kw ps qs ps' qs' c1 c2 c3 c4 n up dn lf rt bo ow) (hn:ps.length=n) (hl:ps.length=qs.length) (P' Q' X Y hp hq:Nat)
  (eP:P'=vl 18446744073709551616 ps + 18446744073709551616^n*hp) (eQ:Q'=vl 18446744073709551616 qs + 18446744073709551616^n*hq) (eX:X+c2*Q'=c1*P') (eY:Y+c3*P'=c4*Q') (hX:X < 18446744073709551616^n) (hY:Y < 18446744073709551616^n):vl 18446744073709551616 ps'=X∧vl 18446744073709551616 qs'=Y:=by
 subst hn
 exact h.fin hl P' Q' X Y hp hq eP eQ eX eY hX hY
theorem zry (vx vy:Value) (X Y:Nat) (w:World) (hx:Sl .u64 w vx (wd 18446744073709551616 X)) (hy:Sl .u64 w vy (wd 18446744073709551616 Y)) (h2:2≤(wd 18446744073709551616 Y).length) (hn:(wd 18446744073709551616 X).length<(wd 18446744073709551616 Y).length+2) (hle:Y≤X) (hl:(wd 18446744073709551616 X).length<268435456) :
  Calls prog 152 #[vx,vy] w fun e w'=>∃ (xx xy yx yy:Nat) (back:Bool),e=.returned (.agg #[.int .u64 (xx:Int),.int .u64 (xy:Int),.int .u64 (yx:Int),.int .u64 (yy:Int),.bool back])∧xx < 18446744073709551616∧xy < 18446744073709551616∧yx < 18446744073709551616∧yy < 18446744073709551616∧su X Y xx xy yx yy back∧But [] w w':=by
 have hlen:=zu hle
 rcases hx.open with ⟨e,-⟩|⟨-,b1,o1,c1,rfl,hc1,-,hcx⟩
 ·rw[e,List.length_nil] at hlen;omega
 rcases hy.open with ⟨e,-⟩|⟨-,b2,o2,c2,rfl,hc2,-,hcy⟩
 ·rw[e] at h2;simp at h2
 obtain⟨m,hm⟩:∃ m,(wd 18446744073709551616 X).length=m+2:=⟨(wd 18446744073709551616 X).length-2,by omega⟩
 have hXp:0<X:=by
  rcases Nat.eq_zero_or_pos X with h | h
  ·subst h;rw[qd] at hm;simp at hm
  ·exact h
 obtain⟨t1,t2,-,-⟩:=zed X hXp
 have ht:qh X=(wd 18446744073709551616 X)[m+1]?.getD 0:=by unfold qh;rw[hm];rfl
 obtain⟨z1,z2,-,-⟩:=uo (qh X) t1 t2
 have eX:=zxb X m hm
 have lX:=o8 (wd 18446744073709551616 X) m (by omega) (qy (by omega) X)
 have mX:=qy (B:=18446744073709551616) (by omega) X
 have mY:=qy (B:=18446744073709551616) (by omega) Y
 have k1:=hcx (m+1) (by omega)
 have k0:=hcx m (by omega)
 have bx0:=qg mX (by omega:0 < 18446744073709551616) m
 rw[ht] at t1 t2 z1 z2
 obtain⟨ε,e1,e2⟩:=zfi ((wd 18446744073709551616 X)[m+1]?.getD 0) ((wd 18446744073709551616 X)[m]?.getD 0) m (lz ((wd 18446744073709551616 X)[m+1]?.getD 0)) _ z1 lX
 rw[← eX] at e1
 have haB:=qgy _ _ _ z1 bx0 z2
 rcases Nat.lt_or_ge (wd 18446744073709551616 Y).length (m+2) with hsh | hsh
 ·have hny:(wd 18446744073709551616 Y).length=m+1:=by omega
  have eY:=qim Y m hny
  have lY:=o8 (wd 18446744073709551616 Y) m (by omega) mY
  obtain⟨δ,f1,f2⟩:=zfi 0 ((wd 18446744073709551616 Y)[m]?.getD 0) m (lz ((wd 18446744073709551616 X)[m+1]?.getD 0)) _ z1 lY
  rw[← eY] at f1
  rw[Nat.zero_mul] at f1
  have hda:=zxl _ _ _ _ _ X Y e1 f1 e2 hle
  exact zpy b1 o1 c1 b2 o2 c2 _ _ w ((wd 18446744073709551616 X)[m+1]?.getD 0) ((wd 18446744073709551616 X)[m]?.getD 0) 0 ((wd 18446744073709551616 Y)[m]?.getD 0) _ (0+(wd 18446744073709551616 Y)[m]?.getD 0/2^(64-lz ((wd 18446744073709551616 X)[m+1]?.getD 0))) (lz ((wd 18446744073709551616 X)[m+1]?.getD 0)) m X Y hm hny (by omega) k1 k0 (fun h=>by omega) (hcy m (by omega)) t1 t2 bx0 (by omega) (qg mY (by omega) m) z1 (by show _=_;rfl) (by show _=_;rfl) (by show _=_;rw[if_neg (by omega)]) z2 (fun h=>by omega) haB (Nat.lt_of_le_of_lt hda haB) hda (fun a b xx xy yx yy back h=>su.of h X Y _ ε δ e1 f1 e2 f2) hc1 hc2
 ·have hny:(wd 18446744073709551616 Y).length=m+2:=by omega
  have eY:=zxb Y m hny
  have lY:=o8 (wd 18446744073709551616 Y) m (by omega) mY
  obtain⟨δ,f1,f2⟩:=zfi ((wd 18446744073709551616 Y)[m+1]?.getD 0) ((wd 18446744073709551616 Y)[m]?.getD 0) m (lz ((wd 18446744073709551616 X)[m+1]?.getD 0)) _ z1 lY
  rw[← eY] at f1
  have hda:=zxl _ _ _ _ _ X Y e1 f1 e2 hle
  exact zpx b1 o1 c1 b2 o2 c2 _ _ w ((wd 18446744073709551616 X)[m+1]?.getD 0) ((wd 18446744073709551616 X)[m]?.getD 0) ((wd 18446744073709551616 Y)[m+1]?.getD 0) ((wd 18446744073709551616 Y)[m]?.getD 0) _ _ (lz ((wd 18446744073709551616 X)[m+1]?.getD 0)) m X Y hm hny (by omega) k1 k0 (fun _=>hcy (m+1) (by omega)) (hcy m (by omega)) t1 t2 bx0 (qg mY (by omega) _) (qg mY (by omega) m) z1 (by show _=_;rfl) (by show _=_;rfl) (by show _=_;rw[if_pos hny]) z2 (fun _=>Nat.lt_of_le_of_lt (Nat.le_trans (Nat.le_add_right _ _) hda) haB) haB (Nat.lt_of_le_of_lt hda haB) hda (fun a b xx xy yx yy back h=>su.of h X Y _ ε δ e1 f1 e2 f2) hc1 hc2
def Less (lo:Nat) (w:World) (X Y:Nat) (e:Ending) (w':World):Prop:=∃ v1 v2 X' Y',e=.returned (.tuple #[v1,v2])∧zok lo w' v1 v2 X' Y'∧Y'≤X'∧Y' < Y∧X'≤X∧Nat.gcd X' Y'=Nat.gcd X Y∧∃ l:List Nat,(∀ x ∈ l,lo≤x)∧But l w w'
theorem zqx (X Y:Nat):Nat.gcd Y (X%Y)=Nat.gcd X Y:=by rw[Nat.gcd_comm X Y,Nat.gcd_rec Y X,Nat.gcd_comm]
theorem zyh (lo:Nat) (vx vy:Value) (X Y xx xy yx yy:Nat) (back:Bool) (w:World) (hp:zok lo w vx vy X Y) (h2:2≤(wd 18446744073709551616 Y).length) (hle:Y≤X) (hl:(wd 18446744073709551616 X).length<1073741824) (hxx:xx < 18446744073709551616) (hxy:xy < 18446744073709551616) (hyx:yx < 18446744073709551616) (hyy:yy < 18446744073709551616) (hs:su X Y xx xy yx yy back) (hne:xy≠0) :
  Calls prog 153 #[.agg #[.int .u64 (xx:Int),.int .u64 (xy:Int),.int .u64 (yx:Int),.int .u64 (yy:Int),.bool back],vx,vy] w fun e w'=>Less lo w X Y e w':=by
 have hlen:=zu hle
 rcases hs with h0|⟨X',Y',hrel,hlt,hXY,hg⟩
 ·exact absurd h0 hne
 have mX:=qy (B:=18446744073709551616) (by omega) X
 have mY:=qy (B:=18446744073709551616) (by omega) Y
 rcases hp.s1.open with ⟨e,-⟩|⟨-,g1,o1,c1,rfl,hc1,-,-⟩
 ·rw[e,List.length_nil] at hlen;omega
 rcases hp.s2.open with ⟨e,-⟩|⟨-,g2,o2,c2,rfl,hc2,-,-⟩
 ·rw[e] at h2;simp at h2
 have hap:g1≠g2:=hp.ap _ _ _ _ _ _ _ _ rfl rfl
 obtain⟨l1,f1⟩:=hp.o1 _ _ _ _ rfl
 obtain⟨l2,f2⟩:=hp.o2 _ _ _ _ rfl
 have s1:=hp.s1.seg f1
 have s2:=hp.s2.seg f2
 have sP:=s1.sub 0 (wd 18446744073709551616 Y).length (by omega)
 rw[List.drop_zero,Nat.add_zero] at sP
 have lP:((wd 18446744073709551616 X).take (wd 18446744073709551616 Y).length).length=(wd 18446744073709551616 Y).length:=by rw[List.length_take];omega
 have eP:=dm (wd 18446744073709551616 X) (wd 18446744073709551616 Y).length hlen
 rw[xh (by omega)] at eP
 have eQ:Y=vl 18446744073709551616 (wd 18446744073709551616 Y) + 18446744073709551616^(wd 18446744073709551616 Y).length*0:=by rw[xh (by omega)];omega
 have hYl:=zcx Y
 have mP:∀ x ∈ (wd 18446744073709551616 X).take (wd 18446744073709551616 Y).length,x < 18446744073709551616:=fun x hx=>mX x (List.mem_of_mem_take hx)
 cases back
 ·simp only[Bool.false_eq_true,if_false] at hrel
  refine (zyg g1 o1 c1 g2 o2 c2 _ _ ((wd 18446744073709551616 X).take (wd 18446744073709551616 Y).length) (wd 18446744073709551616 Y) w xx xy yx yy hxx hxy hyx hyy hap sP s2 lP rfl (by omega) hlen hc1 hc2 hl mP mY X' Y' (fun ps' qs' u d l r b o h=>?_)).mono ?_
  ·exact h.fin' lP lP X Y X' Y' _ 0 eP eQ hrel.1 hrel.2 (by omega) (by omega)
  ·rintro e w' ⟨v1,v2,rfl,h1,h2',hb,ho1,ho2⟩
   exact⟨v1,v2,X',Y',rfl,⟨h1,h2',ho1.own l1,ho2.own l2,fun b off n c b' off' n' c' e1 e2=>by rw[(ho1 _ _ _ _ e1).1,(ho2 _ _ _ _ e2).1];exact hap⟩,by omega,by omega,by omega,hg,[g1,g2],fun x hx=>by simp at hx;rcases hx with rfl|rfl <;> assumption,hb⟩
 ·simp only[if_true] at hrel
  refine (zuo g1 o1 c1 g2 o2 c2 _ _ (wd 18446744073709551616 Y) ((wd 18446744073709551616 X).take (wd 18446744073709551616 Y).length) w xx xy yx yy hxx hxy hyx hyy hap sP s2 rfl lP (by omega) hlen hc1 hc2 hl mY mP X' Y' (fun ps' qs' u d l r b o h=>?_)).mono ?_
  ·exact h.fin' rfl lP.symm Y X X' Y' 0 _ eQ eP hrel.1 hrel.2 (by omega) (by omega)
  ·rintro e w' ⟨v1,v2,rfl,h1,h2',hb,ho1,ho2⟩
   exact⟨v1,v2,X',Y',rfl,⟨h1,h2',ho1.own l2,ho2.own l1,fun b off n c b' off' n' c' e1 e2=>by rw[(ho1 _ _ _ _ e1).1,(ho2 _ _ _ _ e2).1];exact hap.symm⟩,by omega,by omega,by omega,hg,[g1,g2],fun x hx=>by simp at hx;rcases hx with rfl|rfl <;> assumption,hb⟩
theorem zsm {lo:Nat} {W w':World} {vx vy v2:Value} {X Y:Nat} (hp:zok lo W vx vy X Y) (hY:0<Y) (hle:Y≤X) (hlo:lo≤W.heap.size) (h2:Sl .u64 w' v2 (wd 18446744073709551616 (X%Y))) (hb:But [] W w') (he:jk W vx w' v2):Less lo W X Y (.returned (.tuple #[vy,v2])) w' :=
 ⟨vy,v2,Y,X%Y,rfl,⟨hp.s2.ze hb,h2,hp.o2.but hp.s2 hb,he.own hp.o1 hlo hp.s1 hb,fun b off n c b' off' n' c' e1 e2=>by
  have hpos:0<(wd 18446744073709551616 Y).length:=by rw[Nat.pos_iff_ne_zero];intro e;rw[qo (by omega)] at e;omega
  have h4:=hp.s2.lt hpos b off n c e1
  rcases he _ _ _ _ e2 with ⟨h3,-⟩|⟨o0,n0,c0,e0,-,-⟩
  ·omega
  ·exact fun e=>hp.ap _ _ _ _ _ _ _ _ e0 e1 e.symm⟩,Nat.le_of_lt (Nat.mod_lt _ hY),Nat.mod_lt _ hY,hle,zqx X Y,[],by simp,hb⟩
theorem Less.pre {lo:Nat} {w W:World} {X Y:Nat} {e:Ending} {w':World} (h:Less lo W X Y e w') (hb:But [] w W):Less lo w X Y e w':=by
 obtain⟨v1,v2,X',Y',h1,h2,h3,h4,h5,h6,l,h7,h8⟩:=h
 exact⟨v1,v2,X',Y',h1,h2,h3,h4,h5,h6,l,h7,(But.of_nil hb).trans h8 (fun x hx=>.inl hx)⟩
theorem zgb (lo:Nat) (vx vy:Value) (X Y:Nat) (w:World) (hp:zok lo w vx vy X Y) (h2:2≤(wd 18446744073709551616 Y).length) (hle:Y≤X) (hl:(wd 18446744073709551616 X).length≤1000000) (hlo:lo≤w.heap.size) :
  Calls prog 121 #[vx,vy] w fun e w'=>Less lo w X Y e w':=by
 have hlen:=zu hle
 have hY:0<Y:=by
  rcases Nat.eq_zero_or_pos Y with h | h
  ·subst h;rw[qd] at h2;simp at h2
  ·exact h
 have HQ:=hide (fun (W:World) (h:zok lo W vx vy X Y)=>zbm vx vy X Y W h.s1 h.s2 hY (by omega) (by omega) (Short.of X Y hl))
 have HT:=hide (fun (W:World) (h:zok lo W vx vy X Y) xx xy yx yy back=>zyh lo vx vy X Y xx xy yx yy back W h h2 hle (by omega))
 have HS:=hide (fun (h:(wd 18446744073709551616 X).length<(wd 18446744073709551616 Y).length+2)=>zry vx vy X Y w hp.s1 hp.s2 h2 h hle (by omega))
 have HP:=hide hp
 obtain⟨a1,c1,rfl,-,-⟩:=hp.s1
 obtain⟨a2,c2,rfl,-,-⟩:=hp.s2
 clear hp
 have HLO:=hide hlo
 clear hlo
 generalize (wd 18446744073709551616 X).length=nx at *
 generalize (wd 18446744073709551616 Y).length=ny at *
 by_cases hn:nx<ny+2
 ·go_enter func121,ntmps121
  go_wp2_with fail
  refine (za HS hn).mono ?_
  rintro e w1 ⟨xx,xy,yx,yy,back,rfl,hxx,hxy,hyx,hyy,hok,hb1⟩
  have HOK:=hide hok
  have HB1:=hide hb1
  clear hok hb1 HS
  have BW:Hid (But [] w (w1.alloc (.cells #[.int .u64 (xx:Int),.int .u64 (xy:Int),.int .u64 (yx:Int),.int .u64 (yy:Int),.bool back] 218))):=(za HB1).alloc _
  by_cases h0:xy=0
  ·subst h0
   go_wp2_with fail
   refine (za HQ _ ((za HP).but (za BW))).mono ?_
   rintro e w2 ⟨v1,v2,rfl,-,hv2,hb2,ho2⟩
   have R:=hide ((zsm ((za HP).but (za BW)) hY hle (Nat.le_trans (za HLO) (za BW).size) hv2 hb2 ho2).pre (za BW))
   clear hv2 hb2 ho2
   go_wp2
   go_ret2
   exact za R
  ·have hz:((xy:Int) != 0)=true:=by simp;exact h0
   go_wp2_with fail
   refine (za HT _ ((za HP).but (za BW)) xx xy yx yy back hxx hxy hyx hyy (za HOK) h0).mono ?_
   intro e w2 hless
   obtain⟨v1,v2,X',Y',rfl,hrest⟩:=hless
   have R:=hide ((show Less lo _ X Y (.returned (.tuple #[v1,v2])) w2 from ⟨v1,v2,X',Y',rfl,hrest⟩).pre (za BW))
   clear hrest
   go_wp2
   go_ret2
   exact za R
 ·go_enter func121,ntmps121
  go_wp2_with fail
  refine (za HQ _ (za HP)).mono ?_
  rintro e w2 ⟨v1,v2,rfl,-,hv2,hb2,ho2⟩
  have R:=hide (zsm (za HP) hY hle (za HLO) hv2 hb2 ho2)
  clear hv2 hb2 ho2
  go_wp2
  go_ret2
  exact za R
def zhr (w:World) (X Y:Nat) (Y':Nat) (vx vy:Value) (wr:World):Prop:=∃ X',Sl .u64 wr vx (wd 18446744073709551616 X')∧Sl .u64 wr vy (wd 18446744073709551616 Y')∧Y'≤X'∧X'≤X∧Nat.gcd X' Y'=Nat.gcd X Y∧But [] w wr∧(2≤(wd 18446744073709551616 Y').length→zok w.heap.size wr vx vy X' Y')
theorem zii (vx vy:Value) (X Y:Nat) (w:World) (hx:Sl .u64 w vx (wd 18446744073709551616 X)) (hy:Sl .u64 w vy (wd 18446744073709551616 Y)) (hle:Y<X) (h1:1<Y) (hl:(wd 18446744073709551616 X).length≤1000000) (u v:Value) (r:Int) (hcmp:Hid (Calls prog 111 #[u,v] w fun e w'=>e=.returned (.int .i64 r)∧∃ q,w'=w.drewN q)) (huv:(u=vx∧v=vy∧r=1)∨(u=vy∧v=vx∧r=-1)) :
  Calls prog 90 #[u,v] w fun e w'=>∃ v',e=.returned v'∧Sl .u64 w' v' (wd 18446744073709551616 (Nat.gcd X Y))∧But [] w w':=by
 have hlen:=zu (Nat.le_of_lt hle)
 have hYl:0<(wd 18446744073709551616 Y).length:=by rw[Nat.pos_iff_ne_zero];intro e;rw[qo (by omega)] at e;omega
 have HO:=hide (fun W (h:Sl .u64 W vy (wd 18446744073709551616 Y))=>fw vy Y W h (by omega) false (by show false=_;simp;omega))
 rcases hx.open with ⟨e,-⟩|⟨-,b1,o1,c1,rfl,hc1,-,-⟩
 ·rw[e,List.length_nil] at hlen;omega
 rcases hy.open with ⟨e,-⟩|⟨-,b2,o2,c2,rfl,hc2,-,-⟩
 ·rw[e] at hYl;simp at hYl
 have HC1:=hide (fun W (h:Sl .u64 W (.slice (some ⟨b1,o1,none⟩) (wd 18446744073709551616 X).length c1) (wd 18446744073709551616 X))=>zpi b1 o1 c1 (wd 18446744073709551616 X) W h (by omega) (by omega))
 have HC2:=hide (fun W (h:Sl .u64 W (.slice (some ⟨b2,o2,none⟩) (wd 18446744073709551616 Y).length c2) (wd 18446744073709551616 Y))=>zpi b2 o2 c2 (wd 18446744073709551616 Y) W h (by omega) (by omega))
 have HX:=hide hx
 have HY:=hide hy
 clear hx hy
 generalize hnx:(wd 18446744073709551616 X).length=nx at *
 generalize hny:(wd 18446744073709551616 Y).length=ny at *
 have NX:=hide hnx
 have NY:=hide hny
 clear hnx hny
 have n0:((ny:Int)==0)=false:=beq_eq_false_iff_ne.2 (by omega)
 by_cases h2:2≤ny
 ·rcases huv with ⟨rfl,rfl,rfl⟩|⟨rfl,rfl,rfl⟩
  all_goals
   go_enter func90,ntmps90
   go_wp2_with fail
   refine (za hcmp).mono ?_
   rintro e w1 ⟨rfl,q,rfl⟩
   go_wp2_with fail
   refine (za HO _ (by exact za HY)).mono ?_
   rintro e w1 ⟨rfl,hw⟩
   obtain rfl:=hw.symm
   clear hw
   go_wp2_with fail
   refine (za HC1 _ (by exact za HX)).mono ?_
   rintro e w2 ⟨v1,rfl,hv1,hb1,ho1,g1,d1,rfl⟩
   have B1:Hid (But [] w w2):=((But.refl [] _).drewN q).trans' hb1
   have P1:=hide (And.intro hv1 ho1)
   clear hv1 hb1 ho1
   go_wp2_with fail
   refine (za HC2 _ ((za HY).ze (za B1))).mono ?_
   rintro e w3 ⟨v2,rfl,hv2,hb2,ho2,g2,d2,rfl⟩
   have hap:g1<w2.heap.size:=(za P1).1.lt (by rw[za NX];omega) g1 0 _ _ rfl
   have hap2:w2.heap.size≤g2:=(ho2 _ _ _ _ rfl).1
   have A0:Hid (zhr w X Y Y (.slice (some ⟨g1,0,none⟩) nx d1) (.slice (some ⟨g2,0,none⟩) ny d2) w3) :=
    ⟨X,(za P1).1.ze hb2,hv2,Nat.le_of_lt hle,Nat.le_refl _,rfl,(za B1).trans' hb2,fun _=>⟨(za P1).1.ze hb2,hv2,(za P1).2.but (za P1).1 hb2,ho2.mono (za B1).size,fun b off n c b' off' n' c' e1 e2=>by
     simp only[Value.slice.injEq,Option.some.injEq,Addr.mk.injEq] at e1 e2
     obtain⟨⟨rfl,-⟩,-⟩:=e1
     obtain⟨⟨rfl,-⟩,-⟩:=e2
     omega⟩⟩
   clear hv2 hb2 ho2 P1 B1 HC1 HC2 hap hap2
   go_wp2_with fail
   go_loopg [0,1] Y (fun k p1 p2 wr=>Hid (zhr w X Y k p1 p2 wr))
   case atStart=>exact A0
   case round =>
    clear A0
    obtain⟨X',hs1,hs2,hYX,hXX,hg,hB,hP⟩:=za hrel
    have hl1:=zu hXX
    have hl2:=zu hYX
    have HI:=hide (And.intro hs1 (And.intro hs2 (And.intro hYX (And.intro hXX (And.intro hg (And.intro hB hP))))))
    rw[za NX] at hl1
    by_cases hk2:2≤(wd 18446744073709551616 gk).length
    ·have HL:=hide (zgb w.heap.size _ _ X' gk wr (hP hk2) hk2 hYX (by omega) hB.size)
     obtain⟨a1,d1,rfl,-,-⟩:=hs1
     obtain⟨a2,d2,rfl,-,-⟩:=hs2
     clear hrel hg hB hP
     generalize (wd 18446744073709551616 X').length=m1 at *
     generalize (wd 18446744073709551616 gk).length=m2 at *
     go_wp2_with fail
     refine (za HL).mono ?_
     rintro e w5 ⟨v1,v2,X2,Y2,rfl,hp2,hle2,hlt2,hX2,hg2,l,hlo,hbl⟩
     have R:Hid (zhr w X Y Y2 v1 v2 w5):=⟨X2,hp2.s1,hp2.s2,hle2,by omega,by rw[hg2];exact (za HI).2.2.2.2.1,(za HI).2.2.2.2.2.1.trans hbl (fun x hx=>.inr (hlo x hx)),fun _=>hp2⟩
     clear hp2 hg2 hlo hbl
     go_wp2
     go_roundg Y2
     case measure=>exact hlt2
     case rel=>exact R
    ·rcases Nat.eq_zero_or_pos gk with hz | hz
     ·subst hz
      rw[Nat.gcd_zero_right] at hg
      rw[qd] at hs2
      obtain⟨a1,d1,rfl,-,-⟩:=id hs1
      obtain⟨a2,d2,rfl,-,-⟩:=hs2
      have R:=hide (And.intro hs1 hB)
      have HG:=hide hg
      clear hrel hg hB hP hs1 hk2 HI hl2
      generalize (wd 18446744073709551616 X').length=m1 at *
      go_wp2
      go_ret
      exact⟨_,rfl,by rw[← za HG];exact (za R).1,(za R).2⟩
     ·have hkB:gk < 18446744073709551616:=by
       rcases Nat.lt_or_ge gk 18446744073709551616 with h | h
       ·exact h
       ·exact absurd (zcd gk h) hk2
      rcases zea hs2 hkB with ⟨rfl,-⟩|⟨-,b,off,c,rfl,hcell⟩
      ·omega
      have HBY:=hide (zfn _ X' gk wr hs1 (by omega) hz hkB)
      have hmB:X' % gk < 18446744073709551616:=Nat.lt_trans (Nat.mod_lt _ hz) hkB
      have GW:=hide (fun W=>xu gk (X' % gk) W hkB hmB)
      have hgB:Nat.gcd gk (X' % gk) < 18446744073709551616:=Nat.lt_of_le_of_lt (Nat.gcd_le_left _ hz) hkB
      have HG:Hid (Nat.gcd gk (X' % gk)=Nat.gcd X Y):=by show _=_;rw[zqx];exact hg
      have HOF:=hide (fun W=>jo (Nat.gcd gk (X' % gk)) hgB W)
      obtain⟨a1,d1,rfl,-,-⟩:=id hs1
      have HB:=hide hB
      clear hrel hg hB hP hs1 hs2 HI hl2
      generalize (wd 18446744073709551616 X').length=m1 at *
      go_wp2_with fail
      refine (za HBY).mono ?_
      rintro e w5 ⟨v5,rfl,-,hb5⟩
      have hc5:=hb5.zb hcell (by simp)
      have HB5:=hide hb5
      clear hb5 hcell
      go_wp2_with fail
      refine (za GW _).mono ?_
      rintro e w6 ⟨rfl,q6,rfl⟩
      go_wp2_with fail
      refine (za HOF _).mono ?_
      rintro e w7 ⟨v7,rfl,hv7,hb7,-⟩
      rw[za HG] at hv7
      have R:=hide (And.intro hv7 ((za HB).trans' ((za HB5).trans' (((But.refl [] _).drewN q6).trans' hb7))))
      clear hv7 hb7
      go_wp2
      go_ret
      exact⟨v7,rfl,(za R).1,(za R).2⟩
 ·rcases huv with ⟨rfl,rfl,rfl⟩|⟨rfl,rfl,rfl⟩
  all_goals
   go_enter func90,ntmps90
   go_wp2_with fail
   refine (za hcmp).mono ?_
   rintro e w1 ⟨rfl,q,rfl⟩
   go_wp2_with fail
   refine (za HO _ (by exact za HY)).mono ?_
   rintro e w1 ⟨rfl,hw⟩
   obtain rfl:=hw.symm
   clear hw
   have A0:Hid (zhr w X Y Y (.slice (some ⟨b1,o1,none⟩) nx c1) (.slice (some ⟨b2,o2,none⟩) ny c2) (w.drewN q)) :=
    ⟨X,za HX,za HY,Nat.le_of_lt hle,Nat.le_refl _,rfl,(But.refl [] _).drewN q,fun h=>by rw[za NY] at h;omega⟩
   go_wp2_with fail
   go_loopg [0,1] Y (fun k p1 p2 wr=>Hid (zhr w X Y k p1 p2 wr))
   case atStart=>exact A0
   case round =>
    clear A0
    obtain⟨X',hs1,hs2,hYX,hXX,hg,hB,hP⟩:=za hrel
    have hl1:=zu hXX
    have hl2:=zu hYX
    have HI:=hide (And.intro hs1 (And.intro hs2 (And.intro hYX (And.intro hXX (And.intro hg (And.intro hB hP))))))
    rw[za NX] at hl1
    by_cases hk2:2≤(wd 18446744073709551616 gk).length
    ·have HL:=hide (zgb w.heap.size _ _ X' gk wr (hP hk2) hk2 hYX (by omega) hB.size)
     obtain⟨a1,d1,rfl,-,-⟩:=hs1
     obtain⟨a2,d2,rfl,-,-⟩:=hs2
     clear hrel hg hB hP
     generalize (wd 18446744073709551616 X').length=m1 at *
     generalize (wd 18446744073709551616 gk).length=m2 at *
     go_wp2_with fail
     refine (za HL).mono ?_
     rintro e w5 ⟨v1,v2,X2,Y2,rfl,hp2,hle2,hlt2,hX2,hg2,l,hlo,hbl⟩
     have R:Hid (zhr w X Y Y2 v1 v2 w5):=⟨X2,hp2.s1,hp2.s2,hle2,by omega,by rw[hg2];exact (za HI).2.2.2.2.1,(za HI).2.2.2.2.2.1.trans hbl (fun x hx=>.inr (hlo x hx)),fun _=>hp2⟩
     clear hp2 hg2 hlo hbl
     go_wp2
     go_roundg Y2
     case measure=>exact hlt2
     case rel=>exact R
    ·rcases Nat.eq_zero_or_pos gk with hz | hz
     ·subst hz
      rw[Nat.gcd_zero_right] at hg
      rw[qd] at hs2
      obtain⟨a1,d1,rfl,-,-⟩:=id hs1
      obtain⟨a2,d2,rfl,-,-⟩:=hs2
      have R:=hide (And.intro hs1 hB)
      have HG:=hide hg
      clear hrel hg hB hP hs1 hk2 HI hl2
      generalize (wd 18446744073709551616 X').length=m1 at *
      go_wp2
      go_ret
      exact⟨_,rfl,by rw[← za HG];exact (za R).1,(za R).2⟩
     ·have hkB:gk < 18446744073709551616:=by
       rcases Nat.lt_or_ge gk 18446744073709551616 with h | h
       ·exact h
       ·exact absurd (zcd gk h) hk2
      rcases zea hs2 hkB with ⟨rfl,-⟩|⟨-,b,off,c,rfl,hcell⟩
      ·omega
      have HBY:=hide (zfn _ X' gk wr hs1 (by omega) hz hkB)
      have hmB:X' % gk < 18446744073709551616:=Nat.lt_trans (Nat.mod_lt _ hz) hkB
      have GW:=hide (fun W=>xu gk (X' % gk) W hkB hmB)
      have hgB:Nat.gcd gk (X' % gk) < 18446744073709551616:=Nat.lt_of_le_of_lt (Nat.gcd_le_left _ hz) hkB
      have HG:Hid (Nat.gcd gk (X' % gk)=Nat.gcd X Y):=by show _=_;rw[zqx];exact hg
      have HOF:=hide (fun W=>jo (Nat.gcd gk (X' % gk)) hgB W)
      obtain⟨a1,d1,rfl,-,-⟩:=id hs1
      have HB:=hide hB
      clear hrel hg hB hP hs1 hs2 HI hl2
      generalize (wd 18446744073709551616 X').length=m1 at *
      go_wp2_with fail
      refine (za HBY).mono ?_
      rintro e w5 ⟨v5,rfl,-,hb5⟩
      have hc5:=hb5.zb hcell (by simp)
      have HB5:=hide hb5
      clear hb5 hcell
      go_wp2_with fail
      refine (za GW _).mono ?_
      rintro e w6 ⟨rfl,q6,rfl⟩
      go_wp2_with fail
      refine (za HOF _).mono ?_
      rintro e w7 ⟨v7,rfl,hv7,hb7,-⟩
      rw[za HG] at hv7
      have R:=hide (And.intro hv7 ((za HB).trans' ((za HB5).trans' (((But.refl [] _).drewN q6).trans' hb7))))
      clear hv7 hb7
      go_wp2
      go_ret
      exact⟨v7,rfl,(za R).1,(za R).2⟩
theorem l9 (vx vy:Value) (X Y:Nat) (w:World) (hx:Sl .u64 w vx (wd 18446744073709551616 X)) (hy:Sl .u64 w vy (wd 18446744073709551616 Y)) (hlx:(wd 18446744073709551616 X).length≤1000000) (hly:(wd 18446744073709551616 Y).length≤1000000) :
  Calls prog 90 #[vx,vy] w fun e w'=>∃ v',e=.returned v'∧Sl .u64 w' v' (wd 18446744073709551616 (Nat.gcd X Y))∧But [] w w':=by
 have hcmp:=ve vx vy X Y w hx hy (by omega) (by omega)
 have HX:=hide hx
 have HY:=hide hy
 rcases zcn X Y with ⟨hlt,hc⟩|⟨heq,hc⟩|⟨hgt,hc⟩
 ·rw[hc] at hcmp
  rcases Nat.lt_or_ge 1 X with h1 | h1
  ·have:=zii vy vx Y X w hy hx hlt h1 hly vx vy (-1) hcmp (.inr ⟨rfl,rfl,rfl⟩)
   rw[Nat.gcd_comm] at this
   exact this
  ·have HC:=hide hcmp
   have HO:=hide (fun W (h:Sl .u64 W vx (wd 18446744073709551616 X))=>fw vx X W h (by omega) true)
   rcases Nat.eq_zero_or_pos X with h0 | h0
   ·subst h0
    rw[Nat.gcd_zero_left]
    rw[qd] at hx
    obtain⟨a1,c1,rfl,-,-⟩:=hx
    obtain⟨a2,c2,rfl,-,-⟩:=hy
    clear hcmp hc HO
    generalize (wd 18446744073709551616 Y).length=ny at *
    go_enter func90,ntmps90
    go_wp2_with fail
    refine (za HC).mono ?_
    rintro e w1 ⟨rfl,q,rfl⟩
    go_wp2
    go_ret
    exact⟨_,rfl,za HY,(But.refl _ _).drewN q⟩
   ·have hX1:X=1:=by omega
    subst hX1
    rw[Nat.gcd_one_left]
    have hl1:(wd 18446744073709551616 1).length=1:=by rw[zcc 1 (by omega) (by omega)];rfl
    have HO1:=hide (fun W h=>za HO W h (by show true=_;rfl))
    obtain⟨a1,c1,rfl,-,-⟩:=hx
    obtain⟨a2,c2,rfl,-,-⟩:=hy
    clear hcmp hc HO
    rw[hl1] at *
    generalize (wd 18446744073709551616 Y).length=ny at *
    clear hl1
    go_enter func90,ntmps90
    go_wp2_with fail
    refine (za HC).mono ?_
    rintro e w1 ⟨rfl,q,rfl⟩
    go_wp2_with fail
    refine (za HO1 _ (by exact za HX)).mono ?_
    rintro e w1 ⟨rfl,hw⟩
    obtain rfl:=hw.symm
    clear hw
    go_wp2
    go_ret
    exact⟨_,rfl,za HX,(But.refl _ _).drewN q⟩
 ·rw[hc] at hcmp
  have HC:=hide hcmp
  subst heq
  rw[Nat.gcd_self]
  obtain⟨a1,c1,rfl,-,-⟩:=hx
  obtain⟨a2,c2,rfl,-,-⟩:=hy
  clear hcmp hc
  generalize (wd 18446744073709551616 X).length=nx at *
  go_enter func90,ntmps90
  go_wp2_with fail
  refine (za HC).mono ?_
  rintro e w1 ⟨rfl,q,rfl⟩
  go_wp2
  go_ret
  exact⟨_,rfl,za HX,(But.refl _ _).drewN q⟩
 ·rw[hc] at hcmp
  rcases Nat.lt_or_ge 1 Y with h1 | h1
  ·exact zii vx vy X Y w hx hy hgt h1 hlx vx vy 1 hcmp (.inl ⟨rfl,rfl,rfl⟩)
  ·have HC:=hide hcmp
   have HO:=hide (fun W (h:Sl .u64 W vy (wd 18446744073709551616 Y))=>fw vy Y W h (by omega) true)
   rcases Nat.eq_zero_or_pos Y with h0 | h0
   ·subst h0
    rw[Nat.gcd_zero_right]
    rw[qd] at hy
    obtain⟨a1,c1,rfl,-,-⟩:=hx
    obtain⟨a2,c2,rfl,-,-⟩:=hy
    clear hcmp hc HO
    generalize (wd 18446744073709551616 X).length=nx at *
    go_enter func90,ntmps90
    go_wp2_with fail
    refine (za HC).mono ?_
    rintro e w1 ⟨rfl,q,rfl⟩
    go_wp2
    go_ret
    exact⟨_,rfl,za HX,(But.refl _ _).drewN q⟩
   ·have hX1:Y=1:=by omega
    subst hX1
    rw[Nat.gcd_one_right]
    have hl1:(wd 18446744073709551616 1).length=1:=by rw[zcc 1 (by omega) (by omega)];rfl
    have HO1:=hide (fun W h=>za HO W h (by show true=_;rfl))
    obtain⟨a1,c1,rfl,-,-⟩:=hx
    obtain⟨a2,c2,rfl,-,-⟩:=hy
    clear hcmp hc HO
    rw[hl1] at *
    generalize (wd 18446744073709551616 X).length=nx at *
    clear hl1
    go_enter func90,ntmps90
    go_wp2_with fail
    refine (za HC).mono ?_
    rintro e w1 ⟨rfl,q,rfl⟩
    go_wp2_with fail
    refine (za HO1 _ (by exact za HY)).mono ?_
    rintro e w1 ⟨rfl,hw⟩
    obtain rfl:=hw.symm
    clear hw
    go_wp2
    go_ret
    exact⟨_,rfl,za HY,(But.refl _ _).drewN q⟩
theorem zno (s t:Bool) (v1 v2:Value) (m n:Nat) (w:World) (h1:Sl .u64 w v1 (wd 18446744073709551616 m)) (h2:Sl .u64 w v2 (wd 18446744073709551616 n)) (hl1:(wd 18446744073709551616 m).length<1073741824) (hl2:(wd 18446744073709551616 n).length<1073741824) :
  Calls prog 164 #[.bool s,v1,.bool t,v2] w fun e w'=>∃ (r:Bool) (v:Value) (M:Nat),e=.returned (.tuple #[.bool r,v])∧Sl .u64 w' v (wd 18446744073709551616 M)∧sgn s m+sgn t n=sgn r M∧M≤m+n∧But [] w w':=by
 have HA:=hide (mg v1 v2 m n w h1 h2 hl1 hl2)
 have HC:=hide (ve v1 v2 m n w h1 h2 (by omega) (by omega))
 have H1:=hide h1
 have H2:=hide h2
 have HS1:=hide (fun (W:World) (a:Sl .u64 W v1 (wd 18446744073709551616 m)) (b:Sl .u64 W v2 (wd 18446744073709551616 n)) (h:n≤m)=>zar v1 v2 m n W a b hl1 h)
 have HS2:=hide (fun (W:World) (a:Sl .u64 W v1 (wd 18446744073709551616 m)) (b:Sl .u64 W v2 (wd 18446744073709551616 n)) (h:m≤n)=>zar v2 v1 n m W b a hl2 h)
 obtain⟨a1,c1,rfl,-,-⟩:=h1
 obtain⟨a2,c2,rfl,-,-⟩:=h2
 generalize (wd 18446744073709551616 m).length=l1 at *
 generalize (wd 18446744073709551616 n).length=l2 at *
 by_cases hst:s=t
 ·subst hst
  have hb:(s==s)=true:=by simp
  have HE:Hid (sgn s m+sgn s n=sgn s (m+n)):=by show _=_;cases s <;> simp[sgn] <;> omega
  go_enter func164,ntmps164
  go_wp2_with fail
  refine (za HA).mono ?_
  rintro e w1 ⟨v,rfl,hv,hb1⟩
  have R:=hide (And.intro hv hb1)
  clear hv hb1
  go_wp2
  go_ret2
  exact⟨s,v,m+n,rfl,(za R).1,za HE,Nat.le_refl _,(za R).2⟩
 ·have hb:(s==t)=false:=by simp[hst]
  have ht:t=!s:=by cases s <;> cases t <;> simp_all
  rcases Nat.lt_or_ge m n with hlt | hge
  ·rw[si hlt] at HC
   have HE:Hid (sgn s m+sgn t n=sgn t (n-m)):=by
    show _=_
    rw[ht]
    cases s <;> simp[sgn] <;> omega
   clear ht
   go_enter func164,ntmps164
   go_wp2_with fail
   refine (za HC).mono ?_
   rintro e w1 ⟨rfl,q,rfl⟩
   go_wp2_with fail
   refine (za HS2 _ (by exact za H1) (by exact za H2) (Nat.le_of_lt hlt)).mono ?_
   rintro e w2 ⟨v,rfl,hv,hb1⟩
   have R:=hide (And.intro hv (((But.refl [] _).drewN q).trans' hb1))
   clear hv hb1
   go_wp2
   go_ret2
   exact⟨t,v,n-m,rfl,(za R).1,za HE,by omega,(za R).2⟩
  ·have hc0:=zel hge
   have HE:Hid (sgn s m+sgn t n=sgn s (m-n)):=by
    show _=_
    rw[ht]
    cases s <;> simp[sgn] <;> omega
   clear ht
   generalize q8 m n=r at *
   have hr:decide (0≤r)=true:=by simp;omega
   go_enter func164,ntmps164
   go_wp2_with fail
   refine (za HC).mono ?_
   rintro e w1 ⟨rfl,q,rfl⟩
   go_wp2_with fail
   refine (za HS1 _ (by exact za H1) (by exact za H2) hge).mono ?_
   rintro e w2 ⟨v,rfl,hv,hb1⟩
   have R:=hide (And.intro hv (((But.refl [] _).drewN q).trans' hb1))
   clear hv hb1
   go_wp2
   go_ret2
   exact⟨s,v,m-n,rfl,(za R).1,za HE,by omega,(za R).2⟩
theorem iw (v:Value) (f:Rat) (w:World) (hf:zi w v f) :
  Calls prog 38 #[v] w fun e w'=>e=.returned (.int .i64 f.num.sign)∧But [] w w':=by
 rcases hf with ⟨hp,hq,rfl⟩|⟨hbig,b,v1,v2,rfl,-,-,-,-⟩
 ·by_cases hn:f.num<0
  ·have e:f.num.sign=-1:=Int.sign_eq_neg_one_of_neg hn
   rw[e]
   have hd:decide (f.num<0)=true:=decide_eq_true hn
   rw[hd]
   generalize f.num.natAbs=p at *
   generalize f.den=q at *
   clear hn hd e
   go_enter func38,ntmps38
   go_wp2
   go_ret
   exact⟨rfl,(But.refl _ _).alloc _⟩
  ·have hd:decide (f.num<0)=false:=decide_eq_false hn
   rw[hd]
   rcases Nat.eq_zero_or_pos f.num.natAbs with h0 | h0
   ·have e:f.num.sign=0:=by rw[Int.sign_eq_zero_iff_zero];omega
    rw[e,h0]
    generalize f.den=q at *
    clear hn hd e h0 hp
    go_enter func38,ntmps38
    go_wp2
    go_ret
    exact⟨rfl,(But.refl _ _).alloc _⟩
   ·have e:f.num.sign=1:=Int.sign_eq_one_of_pos (by omega)
    rw[e]
    generalize f.num.natAbs=p at *
    generalize f.den=q at *
    have n0:((p:Int)==0)=false:=beq_eq_false_iff_ne.2 (by omega)
    clear hn hd e
    go_enter func38,ntmps38
    go_wp2
    go_ret
    exact⟨rfl,(But.refl _ _).alloc _⟩
 ·have hn0:f.num≠0:=by
   intro e0
   have e1:=f.reduced
   rw[e0,Int.natAbs_zero,Nat.coprime_zero_left] at e1
   rw[e0] at hbig
   simp at hbig
   omega
  by_cases hn:f.num<0
  ·have e:f.num.sign=-1:=Int.sign_eq_neg_one_of_neg hn
   have hd:decide (f.num<0)=true:=decide_eq_true hn
   rw[e,hd]
   clear hn hd e hbig hn0
   go_enter func38,ntmps38
   go_wp2
   go_ret
   exact⟨rfl,(But.refl _ _).alloc _⟩
  ·have e:f.num.sign=1:=Int.sign_eq_one_of_pos (by omega)
   have hd:decide (f.num<0)=false:=decide_eq_false hn
   rw[e,hd]
   clear hn hd e hbig hn0
   go_enter func38,ntmps38
   go_wp2
   go_ret
   exact⟨rfl,(But.refl _ _).alloc _⟩
theorem qez {w:World} {f:Rat} (r:Bool) (hr:r=decide (-f.num<0)) (v:Value) (h:(f.num.natAbs < 18446744073709551616∧f.den < 18446744073709551616∧v=.agg #[.bool r,.int .u64 (f.num.natAbs:Int),.int .u64 ((f.den:Int)-1),.pointer none])∨((18446744073709551616≤f.num.natAbs∨18446744073709551616≤f.den)∧∃ b v1 v2,v=.agg #[.bool r,.int .u64 0,.int .u64 0,.pointer (some ⟨b,0,none⟩)]∧w.cell? ⟨b,0,none⟩=some v1∧w.cell? ⟨b,1,none⟩=some v2∧Sl .u64 w v1 (wd 18446744073709551616 f.num.natAbs)∧Sl .u64 w v2 (wd 18446744073709551616 f.den))):zi w v (-f):=by
 unfold zi
 rw[Rat.neg_num,Rat.neg_den,Int.natAbs_neg,← hr]
 exact h
theorem ztq (v:Value) (f:Rat) (w:World) (hf:zi w v f) :
  Calls prog 161 #[v] w fun e w'=>∃ v',e=.returned v'∧zi w' v' (-f)∧But [] w w':=by
 have HSg:=hide (fun W (h:zi W v f)=>iw v f W h)
 have HF:=hide hf
 obtain⟨s,x,y,p,rfl,hs,hsh⟩:∃ s x y p,v=.agg #[.bool s,.int .u64 x,.int .u64 y,.pointer p]∧s=decide (f.num<0)∧(∀ (W:World) (r:Bool),r=decide (-f.num<0)→But [] w W→zi W (.agg #[.bool r,.int .u64 x,.int .u64 y,.pointer p]) (-f)):=by
  rcases hf with ⟨hp,hq,rfl⟩|⟨hbig,b,v1,v2,rfl,k0,k1,k2,k3⟩
  ·exact⟨_,_,_,_,rfl,rfl,fun W r hr _=>qez r hr _ (.inl ⟨hp,hq,rfl⟩)⟩
  ·exact⟨_,_,_,_,rfl,rfl,fun W r hr hb=>qez r hr _ (.inr ⟨hbig,b,v1,v2,rfl,hb.zb k0 (by simp),hb.zb k1 (by simp),k2.ze hb,k3.ze hb⟩)⟩
 have HH:=hide hsh
 clear hsh hf
 by_cases hn:f.num<0
 ·have e:s=true:=by rw[hs];exact decide_eq_true hn
  subst e
  have hr:Hid (false=decide (-f.num<0)):=by show _=_;rw[decide_eq_false];omega
  clear hs hn HSg HF
  go_enter func161,ntmps161
  go_wp2
  have hB:=((But.refl [] w).alloc (.cells #[.bool false,.int .u64 x,.int .u64 y,.pointer p] 35)).alloc (.cells #[.bool false,.int .u64 x,.int .u64 y,.pointer p] 35)
  exact bodyPost_ret (v:=.agg #[.bool false,.int .u64 x,.int .u64 y,.pointer p]) (by simp[results,results161,go_sem]) rfl ⟨_,rfl,za HH _ false (za hr) hB,hB⟩
 ·have e:s=false:=by rw[hs];exact decide_eq_false hn
  subst e
  obtain⟨r,hr⟩:∃ r,r=decide (-f.num<0):=⟨_,rfl⟩
  obtain⟨z,hz⟩:∃ z,z=f.num.sign:=⟨_,rfl⟩
  have hzr:(z != 0)=r:=by
   rw[hr,hz]
   by_cases h0:f.num=0
   ·rw[h0];rfl
   ·have h1:f.num.sign=1:=Int.sign_eq_one_of_pos (by omega)
    rw[h1]
    rw[decide_eq_true (by omega:-f.num<0)]
    rfl
  rw[← hz] at HSg
  obtain⟨W,hW⟩:∃ W,W=(w.alloc (.cells #[.bool false,.int .u64 x,.int .u64 y,.pointer p] 35)).alloc (.cells #[.bool false,.int .u64 0,.int .u64 0,.pointer none] 35):=⟨_,rfl⟩
  have hB:But [] w W:=by rw[hW];exact ((But.refl [] w).alloc _).alloc _
  have c0:W.cell? ⟨w.heap.size,0,none⟩=some (.bool false):=by rw[hW];simp
  have c1:W.cell? ⟨w.heap.size,1,none⟩=some (.int .u64 x):=by rw[hW];simp
  have c2:W.cell? ⟨w.heap.size,2,none⟩=some (.int .u64 y):=by rw[hW];simp
  have c3:W.cell? ⟨w.heap.size,3,none⟩=some (.pointer p):=by rw[hW];simp
  have d0:W.cell? ⟨w.heap.size+1,0,none⟩=some (.bool false):=by rw[hW];simp
  have d1:W.cell? ⟨w.heap.size+1,1,none⟩=some (.int .u64 0):=by rw[hW];simp
  have d2:W.cell? ⟨w.heap.size+1,2,none⟩=some (.int .u64 0):=by rw[hW];simp
  have d3:W.cell? ⟨w.heap.size+1,3,none⟩=some (.pointer none):=by rw[hW];simp
  have fz:∀ b j,w.heap.size≤b→W.frozen? ⟨b,j,none⟩=false:=by
   intro b j hb
   rw[hW]
   rcases Nat.lt_or_ge b (w.heap.size+2) with h1 | h1
   ·have:b=w.heap.size∨b=w.heap.size+1:=by omega
    rcases this with rfl|rfl <;> simp
   ·simp[World.frozen?,Array.getElem?_eq_none (show ((w.alloc (.cells #[.bool false,.int .u64 x,.int .u64 y,.pointer p] 35)).alloc (.cells #[.bool false,.int .u64 0,.int .u64 0,.pointer none] 35)).heap.size≤b by simp;omega)]
  have HW:=hide hW
  have HS2:=hide (za HSg W ((za HF).but hB))
  have HR:=hide hr
  have HB:=hide hB
  clear hW hs hn hr hz HSg HF hB
  go_enter func161,ntmps161
  go_wp2_with fail
  rw[← za HW]
  refine (za HS2).mono ?_
  rintro e w1 ⟨rfl,hb1⟩
  have k0:=hb1.zb c0 (by simp)
  have k1:=hb1.zb c1 (by simp)
  have k2:=hb1.zb c2 (by simp)
  have k3:=hb1.zb c3 (by simp)
  have l0:=hb1.zb d0 (by simp)
  have l1:=hb1.zb d1 (by simp)
  have l2:=hb1.zb d2 (by simp)
  have l3:=hb1.zb d3 (by simp)
  have hg1:w.heap.size<W.heap.size:=lt_of_cell c0
  have hg2:w.heap.size+1<W.heap.size:=lt_of_cell d0
  have f1:∀ j,w1.frozen? ⟨w.heap.size,j,none⟩=false:=fun j=>(hb1.frozen (p:=⟨w.heap.size,j,none⟩) hg1 (by simp)).trans (fz _ j (Nat.le_refl _))
  have f2:∀ j,w1.frozen? ⟨w.heap.size+1,j,none⟩=false:=fun j=>(hb1.frozen (p:=⟨w.heap.size+1,j,none⟩) hg2 (by simp)).trans (fz _ j (by omega))
  have HB1:Hid (But [] w w1):=(za HB).trans' hb1
  clear hb1 c0 c1 c2 c3 d0 d1 d2 d3 fz HW HS2 hg1 hg2
  obtain⟨ga,hga⟩:∃ ga,ga=w.heap.size:=⟨_,rfl⟩
  obtain⟨gb,hgb⟩:∃ gb,gb=w.heap.size+1:=⟨_,rfl⟩
  rw[← hga] at k0 k1 k2 k3 f1
  rw[← hgb] at l0 l1 l2 l3 f2
  rw[← hgb,← hga]
  have hab:ga≠gb:=by omega
  have ha:Hid (w.heap.size≤ga):=Nat.le_of_eq hga.symm
  have hb:Hid (w.heap.size≤gb):=by show _≤_;omega
  clear hga hgb
  go_wp2
  have hBf:=((((((za HB1).setCell (p:=⟨ga,0,none⟩) (.inr (za ha)) (.bool r)).setCell (p:=⟨gb,0,none⟩) (.inr (za hb)) (.bool r)).setCell (p:=⟨gb,1,none⟩) (.inr (za hb)) (.int .u64 x)).setCell (p:=⟨gb,2,none⟩) (.inr (za hb)) (.int .u64 y)).setCell (p:=⟨gb,3,none⟩) (.inr (za hb)) (.pointer p))
  exact bodyPost_ret (v:=.agg #[.bool r,.int .u64 x,.int .u64 y,.pointer p]) (by simp[results,results161,go_sem,l0,l1,l2,l3]) rfl ⟨_,rfl,za HH _ r (za HR) hBf,hBf⟩
end Go.Proofs.YtcgecpoedojhjaaGreatDoor
