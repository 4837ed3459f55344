/- The sum of two numbers with signs; a fra -/
import Derived.Test.YtagmkkiagjmimaaGreatDoorYN36
namespace Go.Proofs.YtagmkkiagjmimaaGreatDoor
set_option linter.unusedVariables false
open Go.Proofs.Tryz
open Go.RowKit
set_option maxHeartbeats 8000000
set_option maxRecDepth 100000
theorem znl (s t:Bool) (v1 v2:Value) (m n:Nat) (w:World) (h1:Sl .u64 w v1 (wd 18446744073709551616 m)) (h2:Sl .u64 w v2 (wd 18446744073709551616 n)) (hl1:(wd 18446744073709551616 m).length<1073741824) (hl2:(wd 18446744073709551616 n).length<1073741824) :
   Calls prog 175 #[.bool s,v1,.bool t,v2] w fun e w'=>∃ (r:Bool) (v:Value) (M:Nat),e=.returned (.tuple #[.bool r,v])∧Sl .u64 w' v (wd 18446744073709551616 M)∧sgn s m+sgn t n=sgn r M∧M≤m+n∧But [] w w':=by(
 have HA:=af (zca v1 v2 m n w h1 h2 hl1 hl2)
 have HC:=af (ky v1 v2 m n w h1 h2 (by omega) (by omega))
 have H1:=af h1
 have H2:=af h2
 have HS1:=af (fun (W:World) (a:Sl .u64 W v1 (wd 18446744073709551616 m)) (b:Sl .u64 W v2 (wd 18446744073709551616 n)) (h:n≤m)=>zbz v1 v2 m n W a b hl1 h)
 have HS2:=af (fun (W:World) (a:Sl .u64 W v1 (wd 18446744073709551616 m)) (b:Sl .u64 W v2 (wd 18446744073709551616 n)) (h:m≤n)=>zbz v2 v1 n m W b a hl2 h)
 obtain⟨a1,c1,rfl,-,-⟩:=h1
 obtain⟨a2,c2,rfl,-,-⟩:=h2
 generalize (wd 18446744073709551616 m).length=l1 at *
 generalize (wd 18446744073709551616 n).length=l2 at *
 by_cases hst:s=t
 ·(
 subst hst
 have hb:(s==s)=true:=by simp
 have HE:Hid (sgn s m+sgn s n=sgn s (m+n)):=by show _=_;cases s <;> simp[sgn] <;> omega
 go_enter func175,ntmps175
 go_wp2_with fail
 refine (ae HA).mono ?_
 rintro e w1 ⟨v,rfl,hv,hb1⟩
 have R:=af (And.intro hv hb1)
 clear hv hb1
 go_wp2
 go_ret2
 exact⟨s,v,m+n,rfl,(ae R).1,ae HE,Nat.le_refl _,(ae R).2⟩)
 ·(
 have hb:(s==t)=false:=by simp[hst]
 have ht:t=!s:=by cases s <;> cases t <;> simp_all
 rcases Nat.lt_or_ge m n with hlt | hge
 ·(
 rw[u6 hlt] at HC
 have HE:Hid (sgn s m+sgn t n=sgn t (n-m)):=by
  show _=_
  rw[ht]
  cases s <;> simp[sgn] <;> omega
 clear ht
 go_enter func175,ntmps175
 go_wp2_with fail
 refine (ae HC).mono ?_
 rintro e w1 ⟨rfl,q,rfl⟩
 go_wp2_with fail
 refine (ae HS2 _ (by exact ae H1) (by exact ae H2) (Nat.le_of_lt hlt)).mono ?_
 rintro e w2 ⟨v,rfl,hv,hb1⟩
 have R:=af (And.intro hv (((But.refl [] _).drewN q).trans' hb1))
 clear hv hb1
 go_wp2
 go_ret2
 exact⟨t,v,n-m,rfl,(ae R).1,ae HE,by omega,(ae R).2⟩)
 ·(
 have hc0:=zbl hge
 have HE:Hid (sgn s m+sgn t n=sgn s (m-n)):=by
  show _=_
  rw[ht]
  cases s <;> simp[sgn] <;> omega
 clear ht
 generalize zy m n=r at *
 have hr:decide (0≤r)=true:=by simp;omega
 go_enter func175,ntmps175
 go_wp2_with fail
 refine (ae HC).mono ?_
 rintro e w1 ⟨rfl,q,rfl⟩
 go_wp2_with fail
 refine (ae HS1 _ (by exact ae H1) (by exact ae H2) hge).mono ?_
 rintro e w2 ⟨v,rfl,hv,hb1⟩
 have R:=af (And.intro hv (((But.refl [] _).drewN q).trans' hb1))
 clear hv hb1
 go_wp2
 go_ret2
 exact⟨s,v,m-n,rfl,(ae R).1,ae HE,by omega,(ae R).2⟩)))
theorem ko (v:Value) (f:Rat) (w:World) (hf:aq w v f) :
   Calls prog 99 #[v] w fun e w'=>e=.returned (.int .i64 f.num.sign)∧But [] w w':=by(
 rcases hf with ⟨hp,hq,rfl⟩|⟨hbig,b,v1,v2,rfl,-,-,-,-⟩
 ·(
 by_cases hn:f.num<0
 ·(
 have e:f.num.sign=-1:=Int.sign_eq_neg_one_of_neg hn
 rw[e]
 have hd:decide (f.num<0)=true:=decide_eq_true hn
 rw[hd]
 generalize f.num.natAbs=p at *
 generalize f.den=q at *
 clear hn hd e
 go_enter func99,ntmps99
 go_wp2
 go_ret
 exact⟨rfl,(But.refl _ _).alloc _⟩)
 ·(
 have hd:decide (f.num<0)=false:=decide_eq_false hn
 rw[hd]
 rcases Nat.eq_zero_or_pos f.num.natAbs with h0 | h0
 ·(
 have e:f.num.sign=0:=by rw[Int.sign_eq_zero_iff_zero];omega
 rw[e,h0]
 generalize f.den=q at *
 clear hn hd e h0 hp
 go_enter func99,ntmps99
 go_wp2
 go_ret
 exact⟨rfl,(But.refl _ _).alloc _⟩)
 ·(
 have e:f.num.sign=1:=Int.sign_eq_one_of_pos (by omega)
 rw[e]
 generalize f.num.natAbs=p at *
 generalize f.den=q at *
 have n0:((p:Int)==0)=false:=beq_eq_false_iff_ne.2 (by omega)
 clear hn hd e
 go_enter func99,ntmps99
 go_wp2
 go_ret
 exact⟨rfl,(But.refl _ _).alloc _⟩)))
 ·(
 have hn0:f.num≠0:=by
  intro e0
  have e1:=f.reduced
  rw[e0,Int.natAbs_zero,Nat.coprime_zero_left] at e1
  rw[e0] at hbig
  simp at hbig
  omega
 by_cases hn:f.num<0
 ·(
 have e:f.num.sign=-1:=Int.sign_eq_neg_one_of_neg hn
 have hd:decide (f.num<0)=true:=decide_eq_true hn
 rw[e,hd]
 clear hn hd e hbig hn0
 go_enter func99,ntmps99
 go_wp2
 go_ret
 exact⟨rfl,(But.refl _ _).alloc _⟩)
 ·(
 have e:f.num.sign=1:=Int.sign_eq_one_of_pos (by omega)
 have hd:decide (f.num<0)=false:=decide_eq_false hn
 rw[e,hd]
 clear hn hd e hbig hn0
 go_enter func99,ntmps99
 go_wp2
 go_ret
 exact⟨rfl,(But.refl _ _).alloc _⟩)))
theorem qez {w:World} {f:Rat} (r:Bool) (hr:r=decide (-f.num<0)) (v:Value) (h:(f.num.natAbs < 18446744073709551616∧f.den < 18446744073709551616∧v=.agg #[.bool r,.int .u64 (f.num.natAbs:Int),.int .u64 ((f.den:Int)-1),.pointer none])∨((18446744073709551616≤f.num.natAbs∨18446744073709551616≤f.den)∧∃ b v1 v2,v=.agg #[.bool r,.int .u64 0,.int .u64 0,.pointer (some ⟨b,0,none⟩)]∧w.cell? ⟨b,0,none⟩=some v1∧w.cell? ⟨b,1,none⟩=some v2∧Sl .u64 w v1 (wd 18446744073709551616 f.num.natAbs)∧Sl .u64 w v2 (wd 18446744073709551616 f.den))):aq w v (-f):=by(
 unfold aq
 rw[Rat.neg_num,Rat.neg_den,Int.natAbs_neg,← hr]
 exact h)
theorem zty (v:Value) (f:Rat) (w:World) (hf:aq w v f) :
   Calls prog 126 #[v] w fun e w'=>∃ v',e=.returned v'∧aq w' v' (-f)∧But [] w w':=by(
 have HSg:=af (fun W (h:aq W v f)=>ko v f W h)
 have HF:=af hf
 obtain⟨s,x,y,p,rfl,hs,hsh⟩:∃ s x y p,v=.agg #[.bool s,.int .u64 x,.int .u64 y,.pointer p]∧s=decide (f.num<0)∧(∀ (W:World) (r:Bool),r=decide (-f.num<0)→But [] w W→aq W (.agg #[.bool r,.int .u64 x,.int .u64 y,.pointer p]) (-f)):=by
  rcases hf with ⟨hp,hq,rfl⟩|⟨hbig,b,v1,v2,rfl,k0,k1,k2,k3⟩
  ·exact⟨_,_,_,_,rfl,rfl,fun W r hr _=>qez r hr _ (.inl ⟨hp,hq,rfl⟩)⟩
  ·exact⟨_,_,_,_,rfl,rfl,fun W r hr hb=>qez r hr _ (.inr ⟨hbig,b,v1,v2,rfl,hb.ag k0 (by simp),hb.ag k1 (by simp),k2.ah hb,k3.ah hb⟩)⟩
 have HH:=af hsh
 clear hsh hf
 by_cases hn:f.num<0
 ·(
 have e:s=true:=by rw[hs];exact decide_eq_true hn
 subst e
 have hr:Hid (false=decide (-f.num<0)):=by show _=_;rw[decide_eq_false];omega
 clear hs hn HSg HF
 go_enter func126,ntmps126
 go_wp2
 have hB:=((But.refl [] w).alloc (.cells #[.bool false,.int .u64 x,.int .u64 y,.pointer p] 27)).alloc (.cells #[.bool false,.int .u64 x,.int .u64 y,.pointer p] 27)
 exact bodyPost_ret (v:=.agg #[.bool false,.int .u64 x,.int .u64 y,.pointer p]) (by simp[results,results126,go_sem]) rfl ⟨_,rfl,ae HH _ false (ae hr) hB,hB⟩)
 ·(
 have e:s=false:=by rw[hs];exact decide_eq_false hn
 subst e
 obtain⟨r,hr⟩:∃ r,r=decide (-f.num<0):=⟨_,rfl⟩
 obtain⟨z,hz⟩:∃ z,z=f.num.sign:=⟨_,rfl⟩
 have hzr:(z != 0)=r:=by
  rw[hr,hz]
  by_cases h0:f.num=0
  ·rw[h0];rfl
  ·have h1:f.num.sign=1:=Int.sign_eq_one_of_pos (by omega)
   rw[h1]
   rw[decide_eq_true (by omega:-f.num<0)]
   rfl
 rw[← hz] at HSg
 obtain⟨W,hW⟩:∃ W,W=(w.alloc (.cells #[.bool false,.int .u64 x,.int .u64 y,.pointer p] 27)).alloc (.cells #[.bool false,.int .u64 0,.int .u64 0,.pointer none] 27):=⟨_,rfl⟩
 have hB:But [] w W:=by rw[hW];exact ((But.refl [] w).alloc _).alloc _
 have c0:W.cell? ⟨w.heap.size,0,none⟩=some (.bool false):=by rw[hW];simp
 have c1:W.cell? ⟨w.heap.size,1,none⟩=some (.int .u64 x):=by rw[hW];simp
 have c2:W.cell? ⟨w.heap.size,2,none⟩=some (.int .u64 y):=by rw[hW];simp
 have c3:W.cell? ⟨w.heap.size,3,none⟩=some (.pointer p):=by rw[hW];simp
 have d0:W.cell? ⟨w.heap.size+1,0,none⟩=some (.bool false):=by rw[hW];simp
 have d1:W.cell? ⟨w.heap.size+1,1,none⟩=some (.int .u64 0):=by rw[hW];simp
 have d2:W.cell? ⟨w.heap.size+1,2,none⟩=some (.int .u64 0):=by rw[hW];simp
 have d3:W.cell? ⟨w.heap.size+1,3,none⟩=some (.pointer none):=by rw[hW];simp
 have fz:∀ b j,w.heap.size≤b→W.frozen? ⟨b,j,none⟩=false:=by
  intro b j hb
  rw[hW]
  rcases Nat.lt_or_ge b (w.heap.size+2) with h1 | h1
  ·have:b=w.heap.size∨b=w.heap.size+1:=by omega
   rcases this with rfl|rfl <;> simp
  ·simp[World.frozen?,Array.getElem?_eq_none (show ((w.alloc (.cells #[.bool false,.int .u64 x,.int .u64 y,.pointer p] 27)).alloc (.cells #[.bool false,.int .u64 0,.int .u64 0,.pointer none] 27)).heap.size≤b by simp;omega)]
 have HW:=af hW
 have HS2:=af (ae HSg W ((ae HF).but hB))
 have HR:=af hr
 have HB:=af hB
 clear hW hs hn hr hz HSg HF hB
 go_enter func126,ntmps126
 go_wp2_with fail
 rw[← ae HW]
 refine (ae HS2).mono ?_
 rintro e w1 ⟨rfl,hb1⟩
 have k0:=hb1.ag c0 (by simp)
 have k1:=hb1.ag c1 (by simp)
 have k2:=hb1.ag c2 (by simp)
 have k3:=hb1.ag c3 (by simp)
 have l0:=hb1.ag d0 (by simp)
 have l1:=hb1.ag d1 (by simp)
 have l2:=hb1.ag d2 (by simp)
 have l3:=hb1.ag d3 (by simp)
 have hg1:w.heap.size<W.heap.size:=ai c0
 have hg2:w.heap.size+1<W.heap.size:=ai d0
 have f1:∀ j,w1.frozen? ⟨w.heap.size,j,none⟩=false:=fun j=>(hb1.frozen (p:=⟨w.heap.size,j,none⟩) hg1 (by simp)).trans (fz _ j (Nat.le_refl _))
 have f2:∀ j,w1.frozen? ⟨w.heap.size+1,j,none⟩=false:=fun j=>(hb1.frozen (p:=⟨w.heap.size+1,j,none⟩) hg2 (by simp)).trans (fz _ j (by omega))
 have HB1:Hid (But [] w w1):=(ae HB).trans' hb1
 clear hb1 c0 c1 c2 c3 d0 d1 d2 d3 fz HW HS2 hg1 hg2
 obtain⟨ga,hga⟩:∃ ga,ga=w.heap.size:=⟨_,rfl⟩
 obtain⟨gb,hgb⟩:∃ gb,gb=w.heap.size+1:=⟨_,rfl⟩
 rw[← hga] at k0 k1 k2 k3 f1
 rw[← hgb] at l0 l1 l2 l3 f2
 rw[← hgb,← hga]
 have hab:ga≠gb:=by omega
 have ha:Hid (w.heap.size≤ga):=Nat.le_of_eq hga.symm
 have hb:Hid (w.heap.size≤gb):=by show _≤_;omega
 clear hga hgb
 go_wp2
 have hBf:=((((((ae HB1).setCell (p:=⟨ga,0,none⟩) (.inr (ae ha)) (.bool r)).setCell (p:=⟨gb,0,none⟩) (.inr (ae hb)) (.bool r)).setCell (p:=⟨gb,1,none⟩) (.inr (ae hb)) (.int .u64 x)).setCell (p:=⟨gb,2,none⟩) (.inr (ae hb)) (.int .u64 y)).setCell (p:=⟨gb,3,none⟩) (.inr (ae hb)) (.pointer p))
 exact bodyPost_ret (v:=.agg #[.bool r,.int .u64 x,.int .u64 y,.pointer p]) (by simp[results,results126,go_sem,l0,l1,l2,l3]) rfl ⟨_,rfl,ae HH _ r (ae HR) hBf,hBf⟩))
theorem zcs (s:Bool) (p q:Nat) (r:Bool) (hr:Hid (r=(s && decide (p≠0)))) (x:Int) (hx:IntKind.u64.wrap ((q:Int)-1)=x) (w:World) :
   Calls prog 134 #[.bool s,.int .u64 (p:Int),.int .u64 (q:Int)] w fun e w'=>e=.returned (.agg #[.bool r,.int .u64 (p:Int),.int .u64 x,.pointer none])∧But [] w w':=by(
 by_cases h0:p=0
 ·(
 subst h0
 have er:Hid (r=false):=by show _=_;rw[ae hr];simp
 clear hr
 cases s
 all_goals(
 go_enter func134,ntmps134
 go_wp2
 rw[ae er]
 exact bodyPost_ret (v:=.agg #[.bool false,.int .u64 ((0:Nat):Int),.int .u64 x,.pointer none]) (by simp[results,results134,go_sem]) rfl ⟨rfl,(But.refl _ _).alloc _⟩))
 ·(
 have e1:((p:Int) != 0)=true:=by simp;exact h0
 cases s
 ·(
 have er:Hid (r=false):=by show _=_;rw[ae hr];simp
 clear hr
 go_enter func134,ntmps134
 go_wp2
 rw[ae er]
 exact bodyPost_ret (v:=.agg #[.bool false,.int .u64 (p:Int),.int .u64 x,.pointer none]) (by simp[results,results134,go_sem]) rfl ⟨rfl,(But.refl _ _).alloc _⟩)
 ·(
 have er:Hid (r=true):=by show _=_;rw[ae hr];simp[h0]
 clear hr
 go_enter func134,ntmps134
 go_wp2
 rw[ae er]
 exact bodyPost_ret (v:=.agg #[.bool true,.int .u64 (p:Int),.int .u64 x,.pointer none]) (by simp[results,results134,go_sem]) rfl ⟨rfl,(But.refl _ _).alloc _⟩)))
theorem zah (w W:World) (A B C:Array Value) (t:TypeId) (hW:W=((w.alloc (.cells A t)).alloc (.cells B t)).alloc (.cells C t)) :
   (∀ j,W.cell? ⟨w.heap.size,j,none⟩=A[j]?)∧(∀ j,W.cell? ⟨w.heap.size+1,j,none⟩=B[j]?)∧(∀ j,W.cell? ⟨w.heap.size+2,j,none⟩=C[j]?)∧(∀ j,W.frozen? ⟨w.heap.size+2,j,none⟩=false)∧But [] w W:=by(
 subst hW
 have z1:(w.alloc (.cells A t)).heap.size=w.heap.size+1:=by simp
 have z2:((w.alloc (.cells A t)).alloc (.cells B t)).heap.size=w.heap.size+2:=by simp
 have e0:∀ (w:World) (o:Obj) (p:Addr),p.block<w.heap.size→(w.alloc o).cell? p=w.cell? p:=fun w o p hp=>((But.refl [] w).alloc o).cell hp (by simp)
 refine⟨fun j=>?_,fun j=>?_,fun j=>?_,fun j=>?_,(((But.refl [] w).alloc _).alloc _).alloc _⟩
 ·rw[e0 _ _ _ (by rw[z2];show w.heap.size<_;omega),e0 _ _ _ (by rw[z1];show w.heap.size<_;omega),World.cell?_alloc_new]
 ·rw[e0 _ _ _ (by rw[z2];show w.heap.size+1<_;omega),← z1,World.cell?_alloc_new]
 ·rw[← z2,World.cell?_alloc_new]
 ·have:(((w.alloc (.cells A t)).alloc (.cells B t)).alloc (.cells C t)).frozen? ⟨((w.alloc (.cells A t)).alloc (.cells B t)).heap.size,j,none⟩=false:=World.frozen?_alloc_new _ _ _ _
  rw[z2] at this;exact this)
theorem dx (a k:Nat) (h:a < 18446744073709551616):a/k < 18446744073709551616:=Nat.lt_of_le_of_lt (Nat.div_le_self _ _) h
theorem or_zero (a b:Nat):a ||| b=0↔a=0∧b=0:=Nat.or_eq_zero_iff
theorem znx (s:Bool) (f g:Rat) (w:World) (hs:s=(decide (f.num<0) != decide (g.num<0))) (hfp:f.num.natAbs < 18446744073709551616) (hfq:f.den < 18446744073709551616) (hgp:g.num.natAbs < 18446744073709551616) (hgq:g.den < 18446744073709551616) :
   Calls prog 167 #[.bool s,.agg #[.bool (decide (f.num<0)),.int .u64 (f.num.natAbs:Int),.int .u64 ((f.den:Int)-1),.pointer none],.agg #[.bool (decide (g.num<0)),.int .u64 (g.num.natAbs:Int),.int .u64 ((g.den:Int)-1),.pointer none]] w fun e w'=>∃ (r:Bool) (x y:Int) (ok:Bool),e=.returned (.tuple #[.agg #[.bool r,.int .u64 x,.int .u64 y,.pointer none],.bool ok])∧(ok=true→aq w' (.agg #[.bool r,.int .u64 x,.int .u64 y,.pointer none]) (f*g))∧But [] w w':=by(
 have hb0:=den_pos f
 have hd0:=den_pos g
 obtain⟨k1,hk1⟩:∃ k1,k1=Nat.gcd g.den f.num.natAbs:=⟨_,rfl⟩
 obtain⟨k2,hk2⟩:∃ k2,k2=Nat.gcd f.den g.num.natAbs:=⟨_,rfl⟩
 obtain⟨hn,hd⟩:=zqj f g k1 k2 (by rw[hk1,Nat.gcd_comm]) (by rw[hk2,Nat.gcd_comm])
 rw[← hs] at hn
 have k10:0<k1:=by rw[hk1];exact Nat.gcd_pos_of_pos_left _ hd0
 have k20:0<k2:=by rw[hk2];exact Nat.gcd_pos_of_pos_left _ hb0
 have k1B:k1 < 18446744073709551616:=Nat.lt_of_le_of_lt (by rw[hk1];exact Nat.gcd_le_left _ hd0) hgq
 have k2B:k2 < 18446744073709551616:=Nat.lt_of_le_of_lt (by rw[hk2];exact Nat.gcd_le_left _ hb0) hfq
 have G1:=af (fun W=>jr g.den f.num.natAbs W hgq hfp)
 have G2:=af (fun W=>jr f.den g.num.natAbs W hfq hgp)
 rw[← hk1] at G1
 rw[← hk2] at G2
 have U1:=af (fun W=>o6 (decide (f.num<0)) f.num.natAbs f.den hfq hb0 W)
 have U2:=af (fun W=>o6 (decide (g.num<0)) g.num.natAbs g.den hgq hd0 W)
 have q1B:=dx f.num.natAbs k1 hfp
 have q2B:=dx g.num.natAbs k2 hgp
 have q3B:=dx f.den k2 hfq
 have q4B:=dx g.den k1 hgq
 obtain⟨lo1,hi1,hlo1,hhi1,e1⟩:=bp (f.num.natAbs/k1) (g.num.natAbs/k2) 0 q1B q2B (by omega)
 obtain⟨lo2,hi2,hlo2,hhi2,e2⟩:=bp (f.den/k2) (g.den/k1) 0 q3B q4B (by omega)
 rw[Nat.add_zero] at e1 e2
 have M1:=af (fun W=>yo (f.num.natAbs/k1) (g.num.natAbs/k2) hi1 lo1 q1B q2B hlo1 e1 W)
 have M2:=af (fun W=>yo (f.den/k2) (g.den/k1) hi2 lo2 q3B q4B hlo2 e2 W)
 obtain⟨z,hz⟩:∃ z,z=hi1 ||| hi2:=⟨_,rfl⟩
 have EO:bits .or .u64 (hi1:Int) (hi2:Int)=(z:Int):=by rw[bits_or_u64_nat _ _ hhi1 hhi2,hz]
 obtain⟨r,hr⟩:∃ r,r=(s && decide (lo1≠0)):=⟨_,rfl⟩
 obtain⟨x,hx⟩:∃ x,IntKind.u64.wrap ((lo2:Int)-1)=x:=⟨_,rfl⟩
 have FIN:Hid (∀ (W:World),((z:Int)==0)=true→aq W (.agg #[.bool r,.int .u64 (lo1:Int),.int .u64 x,.pointer none]) (f*g)):=by
  intro W hz0
  have hz1:z=0:=by have:=beq_iff_eq.1 hz0;omega
  rw[hz,or_zero] at hz1
  obtain⟨h1,h2⟩:=hz1
  rw[h1,Nat.mul_zero,Nat.add_zero] at e1
  rw[h2,Nat.mul_zero,Nat.add_zero] at e2
  rw[e1] at hn
  rw[e2] at hd
  have hlp:0<lo2:=by rw[← hd];exact den_pos _
  have hx2:x=(lo2:Int)-1:=by rw[← hx,IntKind.wrap_u64];omega
  left
  have habs:(f*g).num.natAbs=lo1:=by rw[hn,yg]
  rw[habs,hd]
  refine⟨hlo1,hlo2,?_⟩
  rw[hr,hx2,hn,zfw]
 have D1:(f.num.natAbs:Int)/(k1:Int)=((f.num.natAbs/k1:Nat):Int):=(Int.natCast_ediv _ _).symm
 have D2:(g.num.natAbs:Int)/(k2:Int)=((g.num.natAbs/k2:Nat):Int):=(Int.natCast_ediv _ _).symm
 have D3:(f.den:Int)/(k2:Int)=((f.den/k2:Nat):Int):=(Int.natCast_ediv _ _).symm
 have D4:(g.den:Int)/(k1:Int)=((g.den/k1:Nat):Int):=(Int.natCast_ediv _ _).symm
 have OS:=af (fun W=>zcs s lo1 lo2 r hr x hx W)
 clear hn hd hs hk1 hk2 e1 e2 hz hr hx
 generalize f.num.natAbs/k1=q1 at *
 generalize g.num.natAbs/k2=q2 at *
 generalize f.den/k2=q3 at *
 generalize g.den/k1=q4 at *
 generalize decide (f.num<0)=s1 at *
 generalize decide (g.num<0)=s2 at *
 generalize f.num.natAbs=a at *
 generalize g.num.natAbs=c at *
 generalize hfd:f.den=b at *
 generalize hgd:g.den=d at *
 clear hfd hgd
 have T1:(a:Int).tdiv (k1:Int)=(q1:Int):=by rw[Int.tdiv_eq_ediv_of_nonneg (by omega)];exact D1
 have T2:(c:Int).tdiv (k2:Int)=(q2:Int):=by rw[Int.tdiv_eq_ediv_of_nonneg (by omega)];exact D2
 have T3:(b:Int).tdiv (k2:Int)=(q3:Int):=by rw[Int.tdiv_eq_ediv_of_nonneg (by omega)];exact D3
 have T4:(d:Int).tdiv (k1:Int)=(q4:Int):=by rw[Int.tdiv_eq_ediv_of_nonneg (by omega)];exact D4
 have W1:IntKind.u64.wrap (q1:Int)=(q1:Int):=by rw[IntKind.wrap_u64];omega
 have W2:IntKind.u64.wrap (q2:Int)=(q2:Int):=by rw[IntKind.wrap_u64];omega
 have W3:IntKind.u64.wrap (q3:Int)=(q3:Int):=by rw[IntKind.wrap_u64];omega
 have W4:IntKind.u64.wrap (q4:Int)=(q4:Int):=by rw[IntKind.wrap_u64];omega
 have z1:((k1:Int)==0)=false:=beq_eq_false_iff_ne.2 (by omega)
 have z2:((k2:Int)==0)=false:=beq_eq_false_iff_ne.2 (by omega)
 go_enter func167,ntmps167
 go_wp2
 obtain⟨W,hW⟩:∃ W,W=(((w.alloc (.cells #[.bool s1,.int .u64 (a:Int),.int .u64 ((b:Int)-1),.pointer none] 27)).alloc (.cells #[.bool s2,.int .u64 (c:Int),.int .u64 ((d:Int)-1),.pointer none] 27)).alloc (.cells #[.bool false,.int .u64 0,.int .u64 0,.pointer none] 27)):=⟨_,rfl⟩
 obtain⟨tA,tB,tC,fz,hB⟩:=zah w W _ _ _ _ hW
 have x0:=tA 0
 have x1:=tA 1
 have x2:=tA 2
 have x3:=tA 3
 have y0:=tB 0
 have y1:=tB 1
 have y2:=tB 2
 have y3:=tB 3
 have r0:=tC 0
 have r1:=tC 1
 have r2:=tC 2
 have r3:=tC 3
 simp only[List.getElem?_toArray,List.getElem?_cons_zero,List.getElem?_cons_succ] at x0 x1 x2 x3 y0 y1 y2 y3 r0 r1 r2 r3
 clear tA tB tC
 rw[← hW]
 clear hW
 obtain⟨ga,hga⟩:∃ ga,ga=w.heap.size:=⟨_,rfl⟩
 obtain⟨gb,hgb⟩:∃ gb,gb=w.heap.size+1:=⟨_,rfl⟩
 obtain⟨gr,hgr⟩:∃ gr,gr=w.heap.size+2:=⟨_,rfl⟩
 rw[← hga] at x0 x1 x2 x3
 rw[← hgb] at y0 y1 y2 y3
 rw[← hgr] at r0 r1 r2 r3 fz
 rw[← hgr,← hgb,← hga]
 have HGR:Hid (w.heap.size≤gr):=by show _≤_;omega
 clear hga hgb hgr
 have HB:=af hB
 clear hB
 have hrl:gr<W.heap.size:=ai r0
 go_region_held (fun w'=>w'.cell? ⟨ga,0,none⟩=some (.bool s1)∧w'.cell? ⟨ga,1,none⟩=some (.int .u64 (a:Int))∧w'.cell? ⟨ga,2,none⟩=some (.int .u64 ((b:Int)-1))∧w'.cell? ⟨ga,3,none⟩=some (.pointer none)∧w'.cell? ⟨gb,0,none⟩=some (.bool s2)∧w'.cell? ⟨gb,1,none⟩=some (.int .u64 (c:Int))∧w'.cell? ⟨gb,2,none⟩=some (.int .u64 ((d:Int)-1))∧w'.cell? ⟨gb,3,none⟩=some (.pointer none)) (go_keep) (first
  | (go_at_call 140;have hchk:=B1;clear hchk;refine (ae U2 _).mono ?_;rintro e w2 ⟨rfl,hb2⟩;have B2:But [] W w2:=B1.trans' hb2;have m0:=B2.ag x0 (by simp);have m1:=B2.ag x1 (by simp);have m2:=B2.ag x2 (by simp);have m3:=B2.ag x3 (by simp);have n0:=B2.ag y0 (by simp);have n1:=B2.ag y1 (by simp);have n2:=B2.ag y2 (by simp);have n3:=B2.ag y3 (by simp))
  | (go_at_call 140;refine (ae U1 _).mono ?_;rintro e w1 ⟨rfl,hb1⟩;have B1:But [] W w1:=(by first | exact hb1 | exact (But.refl _ _).drew.trans' hb1);have k0:=B1.ag x0 (by simp);have k1':=B1.ag x1 (by simp);have k2':=B1.ag x2 (by simp);have k3:=B1.ag x3 (by simp);have l0:=B1.ag y0 (by simp);have l1:=B1.ag y1 (by simp);have l2:=B1.ag y2 (by simp);have l3:=B1.ag y3 (by simp)))
 have t0:=B2.ag r0 (by simp)
 have t1:=B2.ag r1 (by simp)
 have t2:=B2.ag r2 (by simp)
 have t3:=B2.ag r3 (by simp)
 have tfw2:∀ j,w2.frozen? ⟨gr,j,none⟩=false:=fun j=>(B2.frozen (p:=⟨gr,j,none⟩) hrl (by simp)).trans (fz j)
 have HBw2:Hid (But [] w w2):=(ae HB).trans' B2
 clear B1 B2 hb1 hb2 k0 k1' k2' k3 l0 l1 l2 l3 m0 m2 m3 n0 n2 n3 x0 x1 x2 x3 y0 y1 y2 y3 r0 r1 r2 r3 fz hrl HB U1 U2
 go_wp2
 go_quiet ((first | (go_at_call_of 133 (Value.int IntKind.u64 (d:Int));exact Calls.quiet_of (ae G1 _)) | (go_at_call_of 133 (Value.int IntKind.u64 (b:Int));exact Calls.quiet_of (ae G2 _))))
 obtain⟨V1,hV1⟩:∃ V1,V1=w2.drewN nq:=⟨_,rfl⟩
 rw[← hV1]
 have hcV1:∀ p,V1.cell? p=w2.cell? p:=fun p=>by rw[hV1];rfl
 have hfV1:∀ p,V1.frozen? p=w2.frozen? p:=fun p=>by rw[hV1];rfl
 have HBV1:Hid (But [] w V1):=by show But _ _ _;rw[hV1];exact (ae HBw2).drewN nq
 rw[← hcV1] at m1 n1 t0 t1 t2 t3
 have tfV1:∀ j,V1.frozen? ⟨gr,j,none⟩=false:=fun j=>(hfV1 _).trans (tfw2 j)
 clear hV1 hcV1 hfV1 tfw2
 go_wp2
 go_quiet ((go_at_call 178;exact Calls.quiet_of_same (ae M1 _)))
 obtain⟨V2,hV2⟩:∃ V2,V2=V1.drewN nq:=⟨_,rfl⟩
 rw[← hV2]
 have hcV2:∀ p,V2.cell? p=V1.cell? p:=fun p=>by rw[hV2];rfl
 have hfV2:∀ p,V2.frozen? p=V1.frozen? p:=fun p=>by rw[hV2];rfl
 have HBV2:Hid (But [] w V2):=by show But _ _ _;rw[hV2];exact (ae HBV1).drewN nq
 rw[← hcV2] at m1 n1 t0 t1 t2 t3
 have tfV2:∀ j,V2.frozen? ⟨gr,j,none⟩=false:=fun j=>(hfV2 _).trans (tfV1 j)
 clear hV2 hcV2 hfV2 tfV1
 go_wp2
 go_quiet ((go_at_call 178;exact Calls.quiet_of_same (ae M2 _)))
 obtain⟨V3,hV3⟩:∃ V3,V3=V2.drewN nq:=⟨_,rfl⟩
 rw[← hV3]
 have hcV3:∀ p,V3.cell? p=V2.cell? p:=fun p=>by rw[hV3];rfl
 have hfV3:∀ p,V3.frozen? p=V2.frozen? p:=fun p=>by rw[hV3];rfl
 have HBV3:Hid (But [] w V3):=by show But _ _ _;rw[hV3];exact (ae HBV2).drewN nq
 rw[← hcV3] at m1 n1 t0 t1 t2 t3
 have tfV3:∀ j,V3.frozen? ⟨gr,j,none⟩=false:=fun j=>(hfV3 _).trans (tfV2 j)
 clear hV3 hcV3 hfV3 tfV2
 go_wp2_with fail
 refine (ae OS _).mono ?_
 rintro e w4 ⟨rfl,hb4⟩
 have u0:=hb4.ag t0 (by simp)
 have u1:=hb4.ag t1 (by simp)
 have u2:=hb4.ag t2 (by simp)
 have u3:=hb4.ag t3 (by simp)
 have hgl:gr<V3.heap.size:=ai t0
 have uf:∀ j,w4.frozen? ⟨gr,j,none⟩=false:=fun j=>(hb4.frozen (p:=⟨gr,j,none⟩) hgl (by simp)).trans (tfV3 j)
 have HB4:Hid (But [] w w4):=(ae HBV3).trans' hb4
 clear hb4 t0 t1 t2 t3 tfV3 hgl
 obtain⟨ok,hok⟩:∃ ok,((z:Int)==0)=ok:=⟨_,rfl⟩
 have FIN2:Hid (∀ W,ok=true→aq W (.agg #[.bool r,.int .u64 (lo1:Int),.int .u64 x,.pointer none]) (f*g)):=fun W h1=>ae FIN W (by rw[hok];exact h1)
 clear FIN
 go_wp2
 have hBf:=((((ae HB4).setCell (p:=⟨gr,0,none⟩) (.inr (ae HGR)) (.bool r)).setCell (p:=⟨gr,1,none⟩) (.inr (ae HGR)) (.int .u64 (lo1:Int))).setCell (p:=⟨gr,2,none⟩) (.inr (ae HGR)) (.int .u64 x)).setCell (p:=⟨gr,3,none⟩) (.inr (ae HGR)) (.pointer none)
 exact bodyPost_ret (v:=.tuple #[.agg #[.bool r,.int .u64 (lo1:Int),.int .u64 x,.pointer none],.bool ok]) (by simp[results,results167,go_sem,u0,u1,u2,u3]) rfl ⟨r,(lo1:Int),x,ok,rfl,fun h1=>ae FIN2 _ h1,hBf⟩)
theorem aq.agg {w:World} {v:Value} {f:Rat} (h:aq w v f):∃ x y p,v=.agg #[.bool (decide (f.num<0)),.int .u64 x,.int .u64 y,.pointer p]∧(p=none→f.num.natAbs < 18446744073709551616∧f.den < 18446744073709551616∧x=(f.num.natAbs:Int)∧y=(f.den:Int)-1):=by(
 rcases h with ⟨h1,h2,rfl⟩|⟨-,b,v1,v2,rfl,-⟩
 ·exact⟨_,_,_,rfl,fun _=>⟨h1,h2,rfl,rfl⟩⟩
 ·exact⟨_,_,_,rfl,fun e=>by simp at e⟩)
def Blank (w:World) (g:Nat):Prop:=w.cell? ⟨g,0,none⟩=some (.bool false)∧w.cell? ⟨g,1,none⟩=some (.int .u64 0)∧w.cell? ⟨g,2,none⟩=some (.int .u64 0)∧w.cell? ⟨g,3,none⟩=some (.pointer none)∧∀ j,4≤j→w.cell? ⟨g,j,none⟩=none
theorem Blank.but {w w':World} {g:Nat} (h:Blank w g) (hb:But [] w w'):Blank w' g:=by(
 obtain⟨h0,h1,h2,h3,h4⟩:=h
 have hl:=ai h0
 exact⟨hb.ag h0 (by simp),hb.ag h1 (by simp),hb.ag h2 (by simp),hb.ag h3 (by simp),fun j hj=>(hb.cell (p:=⟨g,j,none⟩) hl (by simp)).trans (h4 j hj)⟩)
theorem Blank.zwg {w W:World} {g:Nat} (h:Blank w g) {v:Value} {f:Rat} (hf:aq w v f) (hb:But [g] w W):aq W v f:=hf.over h.1 hb
theorem zct (m k n:Nat) (h:(wd 18446744073709551616 m).length≤n):(wd 18446744073709551616 (m/k)).length≤n:=Nat.le_trans (av (Nat.div_le_self _ _)) h
theorem zay (vf vg:Value) (f g:Rat) (w:World) (hf:aq w vf f) (hg:aq w vg g) (lf:Len f 1000000) (lg:Len g 1000000) :
   Calls prog 89 #[vf,vg] w fun e w'=>∃ v,e=.returned v∧aq w' v (f*g)∧But [] w w':=by(
 obtain⟨k1,hk1⟩:∃ k1,k1=Nat.gcd f.num.natAbs g.den:=⟨_,rfl⟩
 obtain⟨k2,hk2⟩:∃ k2,k2=Nat.gcd g.num.natAbs f.den:=⟨_,rfl⟩
 obtain⟨hn,hd⟩:=zqj f g k1 k2 hk1 hk2
 have k10:0<k1:=by rw[hk1];exact Nat.gcd_pos_of_pos_right _ (den_pos g)
 have k20:0<k2:=by rw[hk2];exact Nat.gcd_pos_of_pos_right _ (den_pos f)
 have k1l:(wd 18446744073709551616 k1).length≤1000000:=Nat.le_trans (av (by rw[hk1];exact Nat.gcd_le_right _ (den_pos g))) lg.2
 have k2l:(wd 18446744073709551616 k2).length≤1000000:=Nat.le_trans (av (by rw[hk2];exact Nat.gcd_le_right _ (den_pos f))) lf.2
 have habs:(f*g).num.natAbs=f.num.natAbs/k1*(g.num.natAbs/k2):=by rw[hn,yg]
 have NF:=af (fun W (h:aq W vf f)=>l6 vf f W h)
 have NG:=af (fun W (h:aq W vg g)=>l6 vg g W h)
 have q1l:=zct f.num.natAbs k1 1000000 lf.1
 have q2l:=zct g.num.natAbs k2 1000000 lg.1
 have q3l:=zct f.den k2 1000000 lf.2
 have q4l:=zct g.den k1 1000000 lg.2
 have m1l:=jg (f.num.natAbs/k1) (g.num.natAbs/k2)
 have m2l:=jg (f.den/k2) (g.den/k1)
 obtain⟨s,hs⟩:∃ s,s=(decide (f.num<0) != decide (g.num<0)):=⟨_,rfl⟩
 rw[← hs] at hn
 have OL:=af (fun (W:World) (v1 v2:Value) (a:Sl .u64 W v1 (wd 18446744073709551616 (f.num.natAbs/k1*(g.num.natAbs/k2)))) (b:Sl .u64 W v2 (wd 18446744073709551616 (f.den/k2*(g.den/k1))))=>zgj s v1 v2 (f*g) W (by rw[habs];exact a) (by rw[hd];exact b) (by rw[habs];exact hn) (by rw[habs];omega) (by rw[hd];omega))
 have G1:=af (fun (W:World) (v1 v2:Value) (a:Sl .u64 W v1 (wd 18446744073709551616 f.num.natAbs)) (b:Sl .u64 W v2 (wd 18446744073709551616 g.den))=>zdz v1 v2 f.num.natAbs g.den W a b lf.1 lg.2)
 have G2:=af (fun (W:World) (v1 v2:Value) (a:Sl .u64 W v1 (wd 18446744073709551616 g.num.natAbs)) (b:Sl .u64 W v2 (wd 18446744073709551616 f.den))=>zdz v1 v2 g.num.natAbs f.den W a b lg.1 lf.2)
 rw[← hk1] at G1
 rw[← hk2] at G2
 have Q1:=af (fun (W:World) (v1 v2:Value) (a:Sl .u64 W v1 (wd 18446744073709551616 f.num.natAbs)) (b:Sl .u64 W v2 (wd 18446744073709551616 k1))=>l8 v1 v2 f.num.natAbs k1 W a b k10 (by have:=lf.1;omega) (by omega) (Short.of _ _ lf.1))
 have Q2:=af (fun (W:World) (v1 v2:Value) (a:Sl .u64 W v1 (wd 18446744073709551616 g.num.natAbs)) (b:Sl .u64 W v2 (wd 18446744073709551616 k2))=>l8 v1 v2 g.num.natAbs k2 W a b k20 (by have:=lg.1;omega) (by omega) (Short.of _ _ lg.1))
 have Q3:=af (fun (W:World) (v1 v2:Value) (a:Sl .u64 W v1 (wd 18446744073709551616 f.den)) (b:Sl .u64 W v2 (wd 18446744073709551616 k2))=>l8 v1 v2 f.den k2 W a b k20 (by have:=lf.2;omega) (by omega) (Short.of _ _ lf.2))
 have Q4:=af (fun (W:World) (v1 v2:Value) (a:Sl .u64 W v1 (wd 18446744073709551616 g.den)) (b:Sl .u64 W v2 (wd 18446744073709551616 k1))=>l8 v1 v2 g.den k1 W a b k10 (by have:=lg.2;omega) (by omega) (Short.of _ _ lg.2))
 have M1:=af (fun (W:World) (v1 v2:Value) (a:Sl .u64 W v1 (wd 18446744073709551616 (f.num.natAbs/k1))) (b:Sl .u64 W v2 (wd 18446744073709551616 (g.num.natAbs/k2)))=>j5 v1 v2 _ _ W a b (by omega))
 have M2:=af (fun (W:World) (v1 v2:Value) (a:Sl .u64 W v1 (wd 18446744073709551616 (f.den/k2))) (b:Sl .u64 W v2 (wd 18446744073709551616 (g.den/k1)))=>j5 v1 v2 _ _ W a b (by omega))
 have MW:=af (fun (W:World) h1 h2 h3 h4=>znx s f g W hs h1 h2 h3 h4)
 have HFA:=af hf
 have HGA:=af hg
 obtain⟨x1,y1,p1,rfl,hw1⟩:=hf.agg
 obtain⟨x2,y2,p2,rfl,hw2⟩:=hg.agg
 have HW1:=af hw1
 have HW2:=af hw2
 have HSS:=af hs
 clear hn hd habs hk1 hk2 hf hg hw1 hw2 k1l k2l q1l q2l q3l q4l m1l m2l lf lg k10 k20
 generalize f.num.natAbs/k1*(g.num.natAbs/k2)=P1 at *
 generalize f.den/k2*(g.den/k1)=P2 at *
 generalize f.num.natAbs/k1=q1 at *
 generalize g.num.natAbs/k2=q2 at *
 generalize f.den/k2=q3 at *
 generalize g.den/k1=q4 at *
 generalize hsf:decide (f.num<0)=s1 at *
 generalize hsg:decide (g.num<0)=s2 at *
 clear hsf hsg
 have hss:(!(s1==s2))=s:=hs.symm
 clear hs
 obtain⟨W,hW⟩:∃ W,W=(((w.alloc (.cells #[.bool s1,.int .u64 x1,.int .u64 y1,.pointer p1] 27)).alloc (.cells #[.bool s2,.int .u64 x2,.int .u64 y2,.pointer p2] 27)).alloc (.cells #[.bool false,.int .u64 0,.int .u64 0,.pointer none] 27)):=⟨_,rfl⟩
 obtain⟨tA,tB,tC,fz,hB⟩:=zah w W _ _ _ _ hW
 have a0:=tA 0
 have a1:=tA 1
 have a2:=tA 2
 have a3:=tA 3
 have b0:=tB 0
 have b1:=tB 1
 have b2:=tB 2
 have b3:=tB 3
 have r0:=tC 0
 have r1:=tC 1
 have r2:=tC 2
 have r3:=tC 3
 simp only[List.getElem?_toArray,List.getElem?_cons_zero,List.getElem?_cons_succ] at a0 a1 a2 a3 b0 b1 b2 b3 r0 r1 r2 r3
 have BL:Hid (Blank W (w.heap.size+2)):=⟨r0,r1,r2,r3,fun j hj=>by rw[tC j];simp;omega⟩
 clear tA tB tC
 have HW:=af hW
 have HB:=af hB
 clear hW hB
 by_cases hpp:p1=none∧p2=none
 case' pos =>(
 obtain⟨rfl,rfl⟩:=hpp
 obtain⟨h1,h2,ex1,ey1⟩:=ae HW1 rfl
 obtain⟨h3,h4,ex2,ey2⟩:=ae HW2 rfl
 have MW':=af (ae MW W h1 h2 h3 h4)
 rw[← ex1,← ey1,← ex2,← ey2] at MW'
 clear MW HW1 HW2 h1 h2 h3 h4 ex1 ex2 ey1 ey2
 go_enter func89,ntmps89
 go_wp2_with fail
 rw[← ae HW]
 obtain⟨ga,hga⟩:∃ ga,ga=w.heap.size:=⟨_,rfl⟩
 obtain⟨gb,hgb⟩:∃ gb,gb=w.heap.size+1:=⟨_,rfl⟩
 obtain⟨gr,hgr⟩:∃ gr,gr=w.heap.size+2:=⟨_,rfl⟩
 rw[← hga] at a0 a1 a2 a3
 rw[← hgb] at b0 b1 b2 b3
 rw[← hgr] at r0 r1 r2 r3 fz BL
 rw[show w.heap.size+1+1=w.heap.size+2 from rfl,← hgr,← hgb,← hga]
 have HGR:Hid (w.heap.size≤gr):=by show _≤_;omega
 clear hga hgb hgr HW
 refine (ae MW').mono ?_
 rintro e w0 ⟨r9,x9,y9,ok,rfl,hok,hb0⟩
 have grl:gr<W.heap.size:=ai r0
 have f0:∀ j,w0.frozen? ⟨gr,j,none⟩=false:=fun j=>(hb0.frozen (p:=⟨gr,j,none⟩) grl (by simp)).trans (fz j)
 have BL0:=af ((ae BL).but hb0)
 have a0':=hb0.ag a0 (by simp)
 have a1':=hb0.ag a1 (by simp)
 have a2':=hb0.ag a2 (by simp)
 have a3':=hb0.ag a3 (by simp)
 have b0':=hb0.ag b0 (by simp)
 have b1':=hb0.ag b1 (by simp)
 have b2':=hb0.ag b2 (by simp)
 have b3':=hb0.ag b3 (by simp)
 have r0':=hb0.ag r0 (by simp)
 have r1':=hb0.ag r1 (by simp)
 have r2':=hb0.ag r2 (by simp)
 have r3':=hb0.ag r3 (by simp)
 have HB0:Hid (But [] w w0):=(ae HB).trans' hb0
 have HOK:=af hok
 clear hok hb0 a0 a1 a2 a3 b0 b1 b2 b3 r0 r1 r2 r3 fz MW' HB BL
 have grl0:gr<w0.heap.size:=ai r0'
 cases ok
 rotate_left
 ·(
 have HF9:=af (ae HOK rfl)
 clear HOK
 go_wp2
 have hBf:=(((((ae HB0).setCell (p:=⟨gr,0,none⟩) (.inr (ae HGR)) (.bool r9)).setCell (p:=⟨gr,1,none⟩) (.inr (ae HGR)) (.int .u64 x9)).setCell (p:=⟨gr,2,none⟩) (.inr (ae HGR)) (.int .u64 y9)).setCell (p:=⟨gr,3,none⟩) (.inr (ae HGR)) (.pointer none)).alloc (.cells #[.bool r9,.int .u64 x9,.int .u64 y9,.pointer none] 27)
 have hBg:=(((((But.refl [gr] w0).setCell (p:=⟨gr,0,none⟩) (.inl (by simp)) (.bool r9)).setCell (p:=⟨gr,1,none⟩) (.inl (by simp)) (.int .u64 x9)).setCell (p:=⟨gr,2,none⟩) (.inl (by simp)) (.int .u64 y9)).setCell (p:=⟨gr,3,none⟩) (.inl (by simp)) (.pointer none)).alloc (.cells #[.bool r9,.int .u64 x9,.int .u64 y9,.pointer none] 27)
 exact bodyPost_ret (v:=.agg #[.bool r9,.int .u64 x9,.int .u64 y9,.pointer none]) (by simp[results,results89,go_sem,r0',r1',r2',r3',grl0]) rfl ⟨_,rfl,(ae BL0).zwg (ae HF9) hBg,hBf⟩)
 obtain⟨V,hV⟩:∃ V,V=w0.alloc (.cells #[.bool r9,.int .u64 x9,.int .u64 y9,.pointer none] 27):=⟨_,rfl⟩
 have hbV:But [] w0 V:=by rw[hV];exact (But.refl _ _).alloc _
 have HBV:Hid (But [] w V):=(ae HB0).trans' hbV
 have BL:=af ((ae BL0).but hbV)
 have a0:=hbV.ag a0' (by simp)
 have a1:=hbV.ag a1' (by simp)
 have a2:=hbV.ag a2' (by simp)
 have a3:=hbV.ag a3' (by simp)
 have c0:=hbV.ag b0' (by simp)
 have c1:=hbV.ag b1' (by simp)
 have c2:=hbV.ag b2' (by simp)
 have c3:=hbV.ag b3' (by simp)
 have z0:=hbV.ag r0' (by simp)
 have z1:=hbV.ag r1' (by simp)
 have z2:=hbV.ag r2' (by simp)
 have z3:=hbV.ag r3' (by simp)
 have zf:∀ j,V.frozen? ⟨gr,j,none⟩=false:=fun j=>(hbV.frozen (p:=⟨gr,j,none⟩) grl0 (by simp)).trans (f0 j)
 have HV:=af hV
 have gal:ga<w0.heap.size:=ai a0'
 have gbl:gb<w0.heap.size:=ai b0'
 clear hV hbV b0' b1' b2' b3' r0' r1' r2' r3' f0 BL0 HB0 HOK
 go_wp2_with fail
 rw[← ae HV]
 clear a0' a1' a2' a3' HV)
 case' neg =>(
 have hp12:p1≠none∨p2≠none:=by
  rcases Classical.em (p1=none) with h1 | h1
  ·right;intro h2;exact hpp ⟨h1,h2⟩
  ·left;exact h1
 clear hpp MW HW1 HW2
 obtain⟨pp,hpp⟩:∃ pp,pp=(p1,p2):=⟨_,rfl⟩
 clear hpp pp
 rcases p1 with _ | p1
 rcases p2 with _ | p2
 ·simp at hp12
 all_goals(
 clear hp12
 go_enter func89,ntmps89
 go_wp2_with fail
 rw[← ae HW]
 obtain⟨ga,hga⟩:∃ ga,ga=w.heap.size:=⟨_,rfl⟩
 obtain⟨gb,hgb⟩:∃ gb,gb=w.heap.size+1:=⟨_,rfl⟩
 obtain⟨gr,hgr⟩:∃ gr,gr=w.heap.size+2:=⟨_,rfl⟩
 rw[← hgb] at b0 b1 b2 b3
 rw[← hgr] at r0 r1 r2 r3 fz BL
 rw[show w.heap.size+1+1=w.heap.size+2 from rfl,← hgr,← hgb,← hga]
 have HGR:Hid (w.heap.size≤gr):=by show _≤_;omega
 clear hga hgb hgr HW a0 a1 a2 a3
 obtain⟨V,hV⟩:∃ V,V=W:=⟨_,rfl⟩
 rw[← hV] at b0 b1 b2 b3 r0 r1 r2 r3 fz BL
 rw[← hV]
 have HBV:Hid (But [] w V):=by rw[hV];exact ae HB
 clear hV HB
 have c0:=b0
 have c1:=b1
 have c2:=b2
 have c3:=b3
 have z0:=r0
 have z1:=r1
 have z2:=r2
 have z3:=r3
 have zf:=fz
 clear b0 b1 b2 b3 r0 r1 r2 r3 fz))
 all_goals(
 refine (ae NF _ ((ae HFA).but (ae HBV))).mono ?_
 rintro e w1 ⟨na,nb,rfl,hna,hnb,hb1⟩
 have d0:=hb1.ag c0 (by simp)
 have d1:=hb1.ag c1 (by simp)
 have d2:=hb1.ag c2 (by simp)
 have d3:=hb1.ag c3 (by simp)
 have e0:=hb1.ag z0 (by simp)
 have HB1:Hid (But [] w w1):=(ae HBV).trans' hb1
 have HV1:=af hb1
 have SA:=af hna
 have SB:=af hnb
 clear hb1 hna hnb
 go_wp2_with fail
 refine (ae NG _ ((ae HGA).but (ae HB1))).mono ?_
 rintro e w2 ⟨nc,nd,rfl,hnc,hnd,hb2⟩
 have HV2:Hid (But [] V w2):=(ae HV1).trans' hb2
 have HB2:Hid (But [] w w2):=(ae HB1).trans' hb2
 have SA2:=af ((ae SA).ah hb2)
 have SB2:=af ((ae SB).ah hb2)
 have SC:=af hnc
 have SD:=af hnd
 clear hb2 hnc hnd SA SB d0 d1 d2 d3 e0 c0 c1 c2 c3 NF NG
 have e0:=(ae HV2).ag z0 (by simp)
 go_wp2_with fail
 refine (ae G1 _ _ _ (ae SA2) (ae SD)).mono ?_
 rintro e w3 ⟨vk1,rfl,hk1s,hb3⟩
 have HV3:Hid (But [] V w3):=(ae HV2).trans' hb3
 have HB23:=af hb3
 have SK1:=af hk1s
 clear hb3 hk1s e0
 go_wp2_with fail
 refine (ae G2 _ _ _ ((ae SC).ah (ae HB23)) ((ae SB2).ah (ae HB23))).mono ?_
 rintro e w4 ⟨vk2,rfl,hk2s,hb4⟩
 have HV4:Hid (But [] V w4):=(ae HV3).trans' hb4
 have HB24:Hid (But [] w2 w4):=(ae HB23).trans' hb4
 have SK1':=af ((ae SK1).ah hb4)
 have SK2:=af hk2s
 clear hb4 hk2s SK1 HB23
 go_wp2_with fail
 refine (ae Q1 _ _ _ ((ae SA2).ah (ae HB24)) (ae SK1')).mono ?_
 rintro e w5 ⟨vq1,rfl,hq1s,hb5⟩
 have HV5:Hid (But [] V w5):=(ae HV4).trans' hb5
 have HB45:=af hb5
 have SQ1:=af hq1s
 clear hb5 hq1s
 go_wp2_with fail
 refine (ae Q2 _ _ _ ((ae SC).ah ((ae HB24).trans' (ae HB45))) ((ae SK2).ah (ae HB45))).mono ?_
 rintro e w6 ⟨vq2,rfl,hq2s,hb6⟩
 have HV6:Hid (But [] V w6):=(ae HV5).trans' hb6
 have HB46:Hid (But [] w4 w6):=(ae HB45).trans' hb6
 have SQ1':=af ((ae SQ1).ah hb6)
 have SQ2:=af hq2s
 clear hb6 hq2s SQ1 HB45
 go_wp2_with fail
 refine (ae M1 _ _ _ (ae SQ1') (ae SQ2)).mono ?_
 rintro e w7 ⟨vm1,rfl,hm1s,hb7,-⟩
 have HV7:Hid (But [] V w7):=(ae HV6).trans' hb7
 have HB47:Hid (But [] w4 w7):=(ae HB46).trans' hb7
 have SM1:=af hm1s
 clear hb7 hm1s SQ1' SQ2 HB46
 go_wp2_with fail
 refine (ae Q3 _ _ _ ((ae SB2).ah ((ae HB24).trans' (ae HB47))) ((ae SK2).ah (ae HB47))).mono ?_
 rintro e w8 ⟨vq3,rfl,hq3s,hb8⟩
 have HV8:Hid (But [] V w8):=(ae HV7).trans' hb8
 have HB48:Hid (But [] w4 w8):=(ae HB47).trans' hb8
 have SM1':=af ((ae SM1).ah hb8)
 have SQ3:=af hq3s
 clear hb8 hq3s SM1 HB47
 go_wp2_with fail
 refine (ae Q4 _ _ _ ((ae SD).ah ((ae HB24).trans' (ae HB48))) ((ae SK1').ah (ae HB48))).mono ?_
 rintro e w9 ⟨vq4,rfl,hq4s,hb9⟩
 have HV9:Hid (But [] V w9):=(ae HV8).trans' hb9
 have SM9:=af ((ae SM1').ah hb9)
 have SQ3':=af ((ae SQ3).ah hb9)
 have SQ4:=af hq4s
 clear hb9 hq4s SM1' SQ3 HB48
 go_wp2_with fail
 refine (ae M2 _ _ _ (ae SQ3') (ae SQ4)).mono ?_
 rintro e w10 ⟨vm2,rfl,hm2s,hb10,-⟩
 have HV10:Hid (But [] V w10):=(ae HV9).trans' hb10
 have SM10:=af ((ae SM9).ah hb10)
 have SM2:=af hm2s
 clear hb10 hm2s SQ3' SQ4 SM9
 go_wp2_with fail
 refine (ae OL _ _ _ (ae SM10) (ae SM2)).mono ?_
 rintro e w11 ⟨v12,rfl,hf11,hb11⟩
 have HV11:Hid (But [] V w11):=(ae HV10).trans' hb11
 have HB11:Hid (But [] w w11):=(ae HBV).trans' (ae HV11)
 have u0:=(ae HV11).ag z0 (by simp)
 have u1:=(ae HV11).ag z1 (by simp)
 have u2:=(ae HV11).ag z2 (by simp)
 have u3:=(ae HV11).ag z3 (by simp)
 have hgl:gr<V.heap.size:=ai z0
 have uf:∀ j,w11.frozen? ⟨gr,j,none⟩=false:=fun j=>((ae HV11).frozen (p:=⟨gr,j,none⟩) hgl (by simp)).trans (zf j)
 have H11:=af hf11
 obtain⟨x8,y8,p8,rfl,-⟩:=hf11.agg
 clear hb11 hf11 z0 z1 z2 z3 zf hgl
 generalize decide ((f*g).num<0)=r8 at *
 go_wp2
 have hBf:=((((ae HB11).setCell (p:=⟨gr,0,none⟩) (.inr (ae HGR)) (.bool r8)).setCell (p:=⟨gr,1,none⟩) (.inr (ae HGR)) (.int .u64 x8)).setCell (p:=⟨gr,2,none⟩) (.inr (ae HGR)) (.int .u64 y8)).setCell (p:=⟨gr,3,none⟩) (.inr (ae HGR)) (.pointer p8)
 have hBg:But [gr] w11 ((((w11.setCell ⟨gr,0,none⟩ (.bool r8)).setCell ⟨gr,1,none⟩ (.int .u64 x8)).setCell ⟨gr,2,none⟩ (.int .u64 y8)).setCell ⟨gr,3,none⟩ (.pointer p8)):=(((((But.refl [gr] w11).setCell (.inl (by simp)) _).setCell (.inl (by simp)) _).setCell (.inl (by simp)) _).setCell (.inl (by simp)) _)
 exact bodyPost_ret (v:=.agg #[.bool r8,.int .u64 x8,.int .u64 y8,.pointer p8]) (by simp[results,results89,go_sem,u0,u1,u2,u3]) rfl ⟨_,rfl,((ae BL).but (ae HV11)).zwg (ae H11) hBg,hBf⟩))
end Go.Proofs.YtagmkkiagjmimaaGreatDoor
