/- The reference's estimate.  -/
import Derived.Test.YtffghofheeleeaaGreatDoorKARqS
import Derived.Test.YtffghofheeleeaaGreatDoorKKMaqS
namespace Go.Proofs.YtffghofheeleeaaGreatDoor
open Go.Proofs.Tryz
open Go.RowKit
set_option maxHeartbeats 64000000
set_option maxRecDepth 100000
set_option linter.unusedVariables false
theorem qzr {x:Rat} (h:0<x):0<x.num:=by
 have h1:=Rat.num_nonneg.2 (Rat.le_of_lt h)
 by_cases h0:x.num=0
 ·rw[Rat.num_eq_zero.1 h0] at h
  exact absurd h (by decide)
 ·omega
theorem qni {x:Rat} (h:0<x.num):0<x:=by
 have h1:=Rat.num_nonneg.1 (Int.le_of_lt h)
 refine Rat.lt_of_le_of_ne h1 (fun e=>?_)
 rw[← e] at h
 exact absurd h (by decide)
theorem zif {w:World} {v:Value} {n:Nat} {fs:Nat→List Rat} (h:zaj w v n fs):∃ a cap,v=.slice a n cap∧n≤cap∧∀ W,But [] w W→∀ i,i<n→∃ b off a' c',a=some ⟨b,off,none⟩∧W.cell? ⟨b,off+i,none⟩=some (.slice a' (fs i).length c')∧jr W (.slice a' (fs i).length c') (fs i):=by
 obtain⟨a,cap,e,hc,-⟩:=id h
 refine⟨a,cap,e,hc,fun W hb i hi=>?_⟩
 obtain⟨a2,cap2,e2,-,h2⟩:=h.but hb
 rw[e] at e2
 simp only[Value.slice.injEq] at e2
 obtain⟨rfl,-,rfl⟩:=e2
 obtain⟨b,off,u,e1,h3,h4⟩:=h2 i hi
 obtain⟨a',c',rfl,-⟩:=h4.open
 exact⟨b,off,a',c',e1,h3,h4⟩
theorem zvz (v:Value) (n:Nat) (fs:Nat→List Rat) (w:World) (hv:zaj w v n fs) (h:n<2∨2≤n∧(40<n∨n≤40∧((fs 0).length<2∨2≤(fs 0).length∧40<(fs 0).length))) :
  Calls prog 23 #[v] w fun e w'=>e=.returned (.tuple #[.slice none 0 0,.slice none 0 0,.int .i64 4])∧But [] w w':=by
 obtain⟨a,cap,rfl,hcap,hV⟩:=zif hv
 have bw:But [] w w:=But.refl _ _
 rcases h with h|⟨h1,h|⟨h2,h⟩⟩
 ·clear hV hv
  go_enter func23,ntmps23
  go_wp2
  exact bodyPost_ret (v:=.tuple #[.slice none 0 0,.slice none 0 0,.int .i64 4]) (by simp[results,results23,go_sem]) rfl ⟨rfl,bw⟩
 ·clear hV hv
  have h3:¬ n<2:=by omega
  go_enter func23,ntmps23
  go_wp2
  exact bodyPost_ret (v:=.tuple #[.slice none 0 0,.slice none 0 0,.int .i64 4]) (by simp[results,results23,go_sem]) rfl ⟨rfl,bw⟩
 ·obtain⟨b,off,a',c',rfl,c0,-⟩:=hV w bw 0 (by omega)
  rw[Nat.add_zero] at c0
  have h3:¬ n<2:=by omega
  have h4:¬ n > 40:=by omega
  generalize (fs 0).length=m at *
  clear hV hv
  rcases h with h|⟨h5,h⟩
  ·go_enter func23,ntmps23
   go_wp2
   exact bodyPost_ret (v:=.tuple #[.slice none 0 0,.slice none 0 0,.int .i64 4]) (by simp[results,results23,go_sem]) rfl ⟨rfl,bw⟩
  ·have h6:¬ m<2:=by omega
   go_enter func23,ntmps23
   go_wp2
   exact bodyPost_ret (v:=.tuple #[.slice none 0 0,.slice none 0 0,.int .i64 4]) (by simp[results,results23,go_sem]) rfl ⟨rfl,bw⟩
theorem zyu (v:Value) (n m q:Nat) (fs:Nat→List Rat) (w:World) (hv:zaj w v n fs) (hn1:2≤n) (hn2:n≤40) (hm:(fs 0).length=m) (hm1:2≤m) (hm2:m≤40) (hq:q<n) (hgood:∀ i,i<q→(fs i).length=m) (hbad:(fs q).length≠m) :
  Calls prog 23 #[v] w fun e w'=>e=.returned (.tuple #[.slice none 0 0,.slice none 0 0,.int .i64 3])∧But [] w w':=by
 obtain⟨a,cap,rfl,hcap,hV⟩:=zif hv
 have bw:But [] w w:=But.refl _ _
 obtain⟨b,off,a',c',rfl,c0,-⟩:=hV w bw 0 (by omega)
 rw[Nat.add_zero,hm] at c0
 have HV:=af hV
 have HG:=af hgood
 have HB:=af hbad
 have h3:¬ n<2:=by omega
 have h4:¬ n > 40:=by omega
 have h5:¬ m<2:=by omega
 have h6:¬ m > 40:=by omega
 clear hV hv hm hgood hbad
 go_enter func23,ntmps23
 go_wp2
 go_loopw [50] (fun iv wr=>∃ k:Nat,k≤q∧iv=.int .i64 (k:Int)∧Hid (But [] w wr)) (fun iv _=>n-(intOf iv).toNat)
 case atStart=>exact⟨0,Nat.zero_le _,rfl,But.refl _ _⟩
 case round =>
  obtain⟨k,hk,rfl,HI⟩:=hrel
  rename World=>wr
  obtain⟨b',off',a2,c2,e',ck,-⟩:=ae HV wr (ae HI) k (by omega)
  simp only[Option.some.injEq,Addr.mk.injEq,and_true] at e'
  obtain⟨rfl,rfl⟩:=e'
  have hkn:k<n:=by omega
  by_cases hlt:k<q
  ·rw[ae HG k hlt] at ck
   go_wp2
   exact⟨⟨k+1,by omega,by go_num,ae HI⟩,by simp[intOf];omega⟩
  ·obtain rfl:k=q:=by omega
   obtain⟨mk,hmk⟩:∃ mk,mk=(fs k).length:=⟨_,rfl⟩
   rw[← hmk] at ck
   have hne:((mk:Int) != (m:Int))=true:=by
    have h:=ae HB
    rw[← hmk] at h
    simp only[bne_iff_ne,ne_eq]
    omega
   clear hmk HV HG HB c0
   go_wp2
   exact bodyPost_ret (v:=.tuple #[.slice none 0 0,.slice none 0 0,.int .i64 3]) (by simp[results,results23,go_sem]) rfl ⟨rfl,ae HI⟩
theorem qgo (v:Value) (n m:Nat) (ls:List (List Rat)) (w:World) (hv:zaj w v n (fun i=>ls[i]?.getD [])) (hN:n=ls.length) (hm:∀ i,i<n→(ls[i]?.getD []).length=m) (hn1:2≤n) (hn2:n≤40) (hm1:2≤m) (hm2:m≤40) (lf:∀ i j,i<n→j<m→Len (atR (ls[i]?.getD []) j) 1) (hne:(esB ls m n).num≠0→(esB ls m n+esD ls m n).num≠0) :
  Calls prog 23 #[v] w fun e w'=>∃ v1 v2,e=.returned (.tuple #[v1,v2,.int .i64 0])∧jr w' v1 [esA ls m n,esW ls m n,esB ls m n,esO ls m n]∧jr w' v2 ((List.range n).map (esP ls m n))∧But [] w w':=by
 have lr:∀ i,i<n→Len (rmR ls m i) 82∧Len (rsR ls m i) 330:=fun i hi=>by
  obtain⟨h1,h2,-,-⟩:=yw (atR (ls[i]?.getD [])) m 1 hm1 hm2 (fun k hk=>lf i k hi hk)
  exact⟨h1.mono (by omega),h2.mono (by omega)⟩
 obtain⟨lA,lS,-,-⟩:=yw (rmR ls m) n 82 hn1 hn2 (fun k hk=>(lr k hk).1)
 obtain⟨lW,-,-,-⟩:=yw (rsR ls m) n 330 hn1 hn2 (fun k hk=>(lr k hk).2)
 have lA':Len (esA ls m n) 3322:=lA
 have lW':Len (esW ls m n) 13242:=lW
 have lD:Len (esD ls m n) 13243:=ru lW' (kr (m:Int) (by omega)) (by rw[(bp (m:Int)).1];omega) 13243 (by omega)
 have lSD:Len (spR (rmR ls m) n-esD ls m n) 26535:=fe lS lD 26535 (by omega)
 have lB:Len (esB ls m n) 26535:=zma lSD (by omega)
 have lBD:Len (esB ls m n+esD ls m n) 39779:=mi lB lD 39779 (by omega)
 have lO:Len (esO ls m n) 66500:=by
  show Len (zaz (esB ls m n) (esD ls m n)) 66500
  unfold zaz
  by_cases h:(esB ls m n).num=0
  ·rw[if_pos h];exact zbw _ (by omega)
  ·rw[if_neg h]
   exact ru lB lBD (hne h) _ (by omega)
 have atl:∀ i,i<n→∀ j,j<(ls[i]?.getD []).length→(ls[i]?.getD [])[j]? = some (atR (ls[i]?.getD []) j):=fun i hi j hj=>by
  unfold atR
  rw[List.getElem?_eq_getElem hj];rfl
 have RM:Hid (∀ i,i<n→∀ W v,jr W v (ls[i]?.getD [])→Calls prog 67 #[v] W fun e w'=>∃ zb,e=.returned (.pointer (some ⟨zb,0,none⟩))∧za w' zb (rmR ls m i)∧But [] W w'):=fun i hi W v h=>by
  have:=zkd v _ (atR (ls[i]?.getD [])) 4 W h (atl i hi) (by rw[hm i hi];omega) (by rw[hm i hi];omega) (by omega) (fun j hj=>(zo (lf i j hi (by rw[← hm i hi];exact hj))).mono (by omega))
  rw[hm i hi] at this
  exact this
 have RS:Hid (∀ i,i<n→∀ W v,jr W v (ls[i]?.getD [])→Calls prog 69 #[v] W fun e w'=>∃ zb,e=.returned (.pointer (some ⟨zb,0,none⟩))∧za w' zb (rsR ls m i)∧But [] W w'):=fun i hi W v h=>by
  have:=zlg v _ (atR (ls[i]?.getD [])) 4 W h (atl i hi) (by rw[hm i hi];omega) (by rw[hm i hi];omega) (by omega) (fun j hj=>(zo (lf i j hi (by rw[← hm i hi];exact hj))).mono (by omega))
  rw[hm i hi] at this
  exact this
 have mapl:∀ F:Nat→Rat,((List.range n).map F).length=n:=fun F=>by simp
 have mapg:∀ F:Nat→Rat,∀ i,i<((List.range n).map F).length→((List.range n).map F)[i]? = some (F i):=fun F i hi=>by
  rw[mapl] at hi
  rw[List.getElem?_map,List.getElem?_range hi];rfl
 have ME1:Hid (∀ W v,jr W v ((List.range n).map (rmR ls m))→Calls prog 67 #[v] W fun e w'=>∃ zb,e=.returned (.pointer (some ⟨zb,0,none⟩))∧za w' zb (esA ls m n)∧But [] W w'):=fun W v h=>by
  have:=zkd v _ (rmR ls m) 200 W h (mapg _) (by rw[mapl];omega) (by rw[mapl];omega) (by omega) (fun j hj=>(zo (lr j (by rw[← mapl (rmR ls m)];exact hj)).1).mono (by omega))
  rw[mapl] at this
  exact this
 have ME2:Hid (∀ W v,jr W v ((List.range n).map (rsR ls m))→Calls prog 67 #[v] W fun e w'=>∃ zb,e=.returned (.pointer (some ⟨zb,0,none⟩))∧za w' zb (esW ls m n)∧But [] W w'):=fun W v h=>by
  have:=zkd v _ (rsR ls m) 800 W h (mapg _) (by rw[mapl];omega) (by rw[mapl];omega) (by omega) (fun j hj=>(zo (lr j (by rw[← mapl (rsR ls m)];exact hj)).2).mono (by omega))
  rw[mapl] at this
  exact this
 have SP1:Hid (∀ W v,jr W v ((List.range n).map (rmR ls m))→Calls prog 69 #[v] W fun e w'=>∃ zb,e=.returned (.pointer (some ⟨zb,0,none⟩))∧za w' zb (spR (rmR ls m) n)∧But [] W w'):=fun W v h=>by
  have:=zlg v _ (rmR ls m) 200 W h (mapg _) (by rw[mapl];omega) (by rw[mapl];omega) (by omega) (fun j hj=>(zo (lr j (by rw[← mapl (rmR ls m)];exact hj)).1).mono (by omega))
  rw[mapl] at this
  exact this
 have n0:(((m:Nat):Int):Rat).num≠0:=by rw[Rat.num_intCast];omega
 have nn:(((m:Nat):Int):Rat)≠0:=fun e=>n0 (by rw[e];rfl)
 have QUO:Hid (∀ W x y,za W x (esW ls m n)→za W y (((m:Nat):Int):Rat)→Calls prog 59 #[.pointer (some ⟨x,0,none⟩),.pointer (some ⟨y,0,none⟩)] W fun e w'=>∃ zb,e=.returned (.pointer (some ⟨zb,0,none⟩))∧za w' zb (esD ls m n)∧But [] W w'):=fun W x y hx hy=>zfn x y _ _ _ W hx hy ((zo lW').mono (by omega)) ((zu.int (by omega)).mono (by omega)) n0 (Rat.div_mul_cancel nn)
 have SUB:Hid (∀ W x y,za W x (spR (rmR ls m) n)→za W y (esD ls m n)→Calls prog 47 #[.pointer (some ⟨x,0,none⟩),.pointer (some ⟨y,0,none⟩)] W fun e w'=>∃ zb,e=.returned (.pointer (some ⟨zb,0,none⟩))∧za w' zb (spR (rmR ls m) n-esD ls m n)∧But [] W w'):=fun W x y hx hy=>zfm x y _ _ W hx hy ((zo lS).mono (by omega)) ((zo lD).mono (by omega))
 have SGN:=af (fun W x (hx:za W x (spR (rmR ls m) n-esD ls m n))=>zih x _ W hx _ rfl ((zo lSD).mono (by omega)))
 have IM:=af (fun W=>rf ((m:Nat):Int) W (by omega) (by omega))
 have I0:=af (fun W=>rf 0 W (by omega) (by omega))
 have OWN:Hid ((esB ls m n).num≠0→(∀ W x y,za W x (esB ls m n)→za W y (esD ls m n)→Calls prog 51 #[.pointer (some ⟨x,0,none⟩),.pointer (some ⟨y,0,none⟩)] W fun e w'=>∃ zb,e=.returned (.pointer (some ⟨zb,0,none⟩))∧za w' zb (esB ls m n+esD ls m n)∧But [] W w')∧(∀ W x y,za W x (esB ls m n)→za W y (esB ls m n+esD ls m n)→Calls prog 59 #[.pointer (some ⟨x,0,none⟩),.pointer (some ⟨y,0,none⟩)] W fun e w'=>∃ zb,e=.returned (.pointer (some ⟨zb,0,none⟩))∧za w' zb (esO ls m n)∧But [] W w')):=fun h=>by
  have e:esO ls m n=esB ls m n/(esB ls m n+esD ls m n):=by unfold esO zaz;rw[if_neg h]
  rw[e]
  exact⟨fun W x y hx hy=>zai x y _ _ W hx hy ((zo lB).mono (by omega)) ((zo lD).mono (by omega)),fun W x y hx hy=>zfn x y _ _ _ W hx hy ((zo lB).mono (by omega)) ((zo lBD).mono (by omega)) (hne h) (Rat.div_mul_cancel (fun e=>hne h (by rw[e];rfl)))⟩
 have PR:Hid (∀ j,j<n→(∀ W x y,za W x (rmR ls m j)→za W y (esA ls m n)→Calls prog 47 #[.pointer (some ⟨x,0,none⟩),.pointer (some ⟨y,0,none⟩)] W fun e w'=>∃ zb,e=.returned (.pointer (some ⟨zb,0,none⟩))∧za w' zb (rmR ls m j-esA ls m n)∧But [] W w')∧(∀ W x y,za W x (esO ls m n)→za W y (rmR ls m j-esA ls m n)→Calls prog 42 #[.pointer (some ⟨x,0,none⟩),.pointer (some ⟨y,0,none⟩)] W fun e w'=>∃ zb,e=.returned (.pointer (some ⟨zb,0,none⟩))∧za w' zb (esO ls m n*(rmR ls m j-esA ls m n))∧But [] W w')∧(∀ W x y,za W x (esA ls m n)→za W y (esO ls m n*(rmR ls m j-esA ls m n))→Calls prog 51 #[.pointer (some ⟨x,0,none⟩),.pointer (some ⟨y,0,none⟩)] W fun e w'=>∃ zb,e=.returned (.pointer (some ⟨zb,0,none⟩))∧za w' zb (esP ls m n j)∧But [] W w')):=fun j hj=>by
  have l1:=fe (lr j hj).1 lA' 3405 (by omega)
  have l2:=jd lO l1 70000 (by omega)
  exact⟨fun W x y hx hy=>zfm x y _ _ W hx hy ((zo (lr j hj).1).mono (by omega)) ((zo lA').mono (by omega)),fun W x y hx hy=>pz x y _ _ W hx hy ((zo lO).mono (by omega)) ((zo l1).mono (by omega)),fun W x y hx hy=>zai x y _ _ W hx hy ((zo lA').mono (by omega)) ((zo l2).mono (by omega))⟩
 have hB1:Hid ((spR (rmR ls m) n-esD ls m n).num.sign≤0→esB ls m n=((0:Int):Rat)∧esO ls m n=((0:Int):Rat)):=fun h=>by
  have h0:spR (rmR ls m) n-esD ls m n≤0:=by
   refine Rat.not_lt.1 fun h1=>?_
   have:=qzr h1
   rw[Int.sign_eq_one_of_pos this] at h
   omega
  have hb:esB ls m n=0:=by
   show zha _=0
   unfold zha
   split <;> grind
  refine⟨hb,?_⟩
  unfold esO zaz
  rw[hb,if_pos (show (0:Rat).num=0 from rfl)];rfl
 have hB2:Hid (0<(spR (rmR ls m) n-esD ls m n).num.sign→esB ls m n=spR (rmR ls m) n-esD ls m n∧(esB ls m n).num≠0):=fun h=>by
  have hp:0<(spR (rmR ls m) n-esD ls m n).num:=Int.sign_pos_iff.1 h
  have h0:0<spR (rmR ls m) n-esD ls m n:=qni hp
  have hb:esB ls m n=spR (rmR ls m) n-esD ls m n:=by
   show zha _=_
   unfold zha
   split <;> grind
  exact⟨hb,by rw[hb];omega⟩
 obtain⟨a,cap,rfl,hcap,hV⟩:=zif hv
 obtain⟨b,off,_,_,rfl,-,-⟩:=hV w (But.refl _ _) 0 (by omega)
 have HV:Hid (∀ i,i<n→∃ a' c',w.cell? ⟨b,off+i,none⟩=some (.slice a' m c')∧jr w (.slice a' m c') (ls[i]?.getD [])):=fun i hi=>by
  obtain⟨b',off',a',c',h1,h2,h3⟩:=hV w (But.refl _ _) i hi
  simp only[Option.some.injEq,Addr.mk.injEq,and_true] at h1
  obtain⟨rfl,rfl⟩:=h1
  rw[hm i hi] at h2 h3
  exact⟨a',c',h2,h3⟩
 obtain⟨a',c',c0,-⟩:=ae HV 0 (by omega)
 rw[Nat.add_zero] at c0
 have h3:¬ n<2:=by omega
 have h4:¬ n > 40:=by omega
 have h5:¬ m<2:=by omega
 have h6:¬ m > 40:=by omega
 clear hV hv hm lr lA lS lW lA' lW' lD lSD lB lBD lO atl mapl mapg n0 nn lf hne hN
 generalize spR (rmR ls m) n-esD ls m n=sd at *
 generalize esA ls m n=A at *
 generalize esW ls m n=V at *
 generalize esB ls m n=B at *
 generalize esO ls m n=O at *
 generalize esD ls m n=D at *
 generalize spR (rmR ls m) n=S at *
 obtain⟨rm,hrm⟩:∃ rm,rm=rmR ls m:=⟨_,rfl⟩
 obtain⟨rs,hrs⟩:∃ rs,rs=rsR ls m:=⟨_,rfl⟩
 obtain⟨pr,hpr⟩:∃ pr,pr=esP ls m n:=⟨_,rfl⟩
 rw[← hrm] at RM ME1 SP1 PR
 rw[← hrs] at RS ME2
 rw[← hpr] at PR
 rw[← hpr]
 clear hrm hrs hpr
 go_enter func23,ntmps23
 go_wp2
 go_loopw [50] (fun iv wr=>∃ k:Nat,k≤n∧iv=.int .i64 (k:Int)∧Hid (But [] w wr)) (fun iv _=>n-(intOf iv).toNat)
 case atStart=>exact⟨0,Nat.zero_le _,rfl,But.refl _ _⟩
 case round =>
  obtain⟨k,hk,rfl,HI⟩:=hrel
  rename World=>wr
  by_cases hlt:k<n
  ·obtain⟨a2,c2,ck,-⟩:=ae HV k hlt
   replace ck:=(ae HI).ag ck (by simp)
   go_wp2
   exact⟨⟨k+1,by omega,by go_num,ae HI⟩,by simp[intOf];omega⟩
  ·obtain rfl:k=n:=by omega
   clear c0
   obtain⟨wb,hwb⟩:∃ wb,wb=wr:=⟨_,rfl⟩
   have bb:Hid (But [] w wb):=by rw[hwb];exact HI
   rw[← hwb]
   clear HI hwb
   go_wp2
   go_loopw [10,11,61] (fun x y iv wr=>∃ j:Nat,j≤k∧iv=.int .i64 (j:Int)∧Hid (znw wb wr x y ((List.range j).map rm) ((List.range j).map rs))) (fun _ _ iv _=>k-(intOf iv).toNat)
   case atStart=>exact⟨0,Nat.zero_le _,rfl,znw.start _⟩
   case round =>
    obtain⟨j,hj,rfl,HT⟩:=hrel
    rename World=>wr
    by_cases hlj:j<k
    ·obtain⟨a2,c2,cj,hrow⟩:=ae HV j hlj
     have HR:=af hrow
     replace cj:=((ae bb).trans' (ae HT).but).ag cj (by simp)
     clear hrow
     go_wp2_with fail
     refine (ae RM j hlj _ _ ((ae HR).but ((ae bb).trans' (ae HT).but))).mono ?_
     rintro e w1 ⟨g1,rfl,r1,hb1⟩
     obtain⟨V1,hV1⟩:∃ V,V=w1.alloc (.cells #[.pointer (some ⟨g1,0,none⟩)] 37):=⟨_,rfl⟩
     have bV1:But [] w1 V1:=by rw[hV1];exact (But.refl _ _).alloc _
     have cc1:V1.cell? ⟨w1.heap.size,0,none⟩=some (.pointer (some ⟨g1,0,none⟩)):=by rw[hV1];simp
     obtain⟨x1,w2,hr1,T1,-⟩:=((ae HT).step (hb1.trans' bV1)).push w1.heap.size g1 (rm j) cc1 (r1.but bV1) (by simp;omega)
     rw[show (List.range j).map rm++[rm j]=(List.range (j+1)).map rm by rw[List.range_succ,List.map_append];rfl] at T1
     rw[hV1] at hr1
     have HR1:=af hr1
     have HT1:=af T1
     clear hr1 T1 bV1 hV1 cc1 hb1 r1 HT cj
     go_wp2_with (at_builtin;refine qw rfl _ _ 69 69 rfl _ _ x1 w2 rfl rfl (ae HR1) ?_)
     clear HR1
     go_wp2_with fail
     refine (ae RS j hlj _ _ ((ae HR).but ((ae bb).trans' (ae HT1).but))).mono ?_
     rintro e w3 ⟨g3,rfl,r3,hb3⟩
     obtain⟨V3,hV3⟩:∃ V,V=w3.alloc (.cells #[.pointer (some ⟨g3,0,none⟩)] 37):=⟨_,rfl⟩
     have bV3:But [] w3 V3:=by rw[hV3];exact (But.refl _ _).alloc _
     have cc3:V3.cell? ⟨w3.heap.size,0,none⟩=some (.pointer (some ⟨g3,0,none⟩)):=by rw[hV3];simp
     obtain⟨x3,w4,hr3,T3,-⟩:=((ae HT1).step (hb3.trans' bV3)).turn.push w3.heap.size g3 (rs j) cc3 (r3.but bV3) (by simp;omega)
     rw[show (List.range j).map rs++[rs j]=(List.range (j+1)).map rs by rw[List.range_succ,List.map_append];rfl] at T3
     rw[hV3] at hr3
     have HR3:=af hr3
     have HT3:=af T3.turn
     clear hr3 T3 bV3 hV3 cc3 hb3 r3 HT1 HR
     go_wp2_with (at_builtin;refine qw rfl _ _ 69 69 rfl _ _ x3 w4 rfl rfl (ae HR3) ?_)
     exact⟨⟨j+1,by omega,by go_num,ae HT3⟩,by simp[intOf];omega⟩
    ·obtain rfl:j=k:=by omega
     have R1:Hid (jr wr u10 ((List.range j).map rm)):=(ae HT).one.elim fun us hu=>hu.qky
     have R2:Hid (jr wr u11 ((List.range j).map rs)):=(ae HT).two.elim fun us hu=>hu.qky
     have B0:Hid (But [] w wr):=(ae bb).trans' (ae HT).but
     obtain⟨a10,c10,e10,-⟩:=(ae R1).open
     rw[List.length_map,List.length_range] at e10
     subst e10
     clear HT bb HV RM RS
     go_wp2_with fail
     refine (ae ME1 _ _ (ae R1)).mono ?_
     rintro e w1 ⟨gA,rfl,hA,hb1⟩
     have S1:=af (And.intro ((ae B0).trans' hb1) (And.intro ((ae R1).but hb1) hA))
     have Q1:=af ((ae R2).but hb1)
     clear hA hb1 B0 R1 R2 ME1
     go_wp2_with fail
     refine (ae ME2 _ _ (ae Q1)).mono ?_
     rintro e w2 ⟨gW,rfl,hW,hb2⟩
     have S2:=af (And.intro ((ae S1).1.trans' hb2) (And.intro ((ae S1).2.1.but hb2) (And.intro ((ae S1).2.2.but hb2) hW)))
     clear hW hb2 S1 Q1 ME2
     go_wp2_with fail
     refine (ae IM _).mono ?_
     rintro e w3 ⟨gm,rfl,hm,hb3⟩
     have D3:=af (ae QUO _ _ _ ((ae S2).2.2.2.but hb3) hm)
     have S3:=af (And.intro ((ae S2).1.trans' hb3) (And.intro ((ae S2).2.1.but hb3) (And.intro ((ae S2).2.2.1.but hb3) ((ae S2).2.2.2.but hb3))))
     clear hm hb3 S2 IM QUO
     go_wp2_with fail
     refine (ae D3).mono ?_
     rintro e w4 ⟨gD,rfl,hD,hb4⟩
     have S4:=af (And.intro ((ae S3).1.trans' hb4) (And.intro ((ae S3).2.1.but hb4) (And.intro ((ae S3).2.2.1.but hb4) (And.intro ((ae S3).2.2.2.but hb4) hD))))
     clear hD hb4 S3 D3
     go_wp2_with fail
     refine (ae SP1 _ _ (ae S4).2.1).mono ?_
     rintro e w5 ⟨gS,rfl,hS,hb5⟩
     have D5:=af (ae SUB _ _ _ hS ((ae S4).2.2.2.2.but hb5))
     have S5:=af (And.intro ((ae S4).1.trans' hb5) (And.intro ((ae S4).2.1.but hb5) (And.intro ((ae S4).2.2.1.but hb5) (And.intro ((ae S4).2.2.2.1.but hb5) ((ae S4).2.2.2.2.but hb5)))))
     clear hS hb5 S4 SP1 SUB
     go_wp2_with fail
     refine (ae D5).mono ?_
     rintro e w6 ⟨gs,rfl,hs,hb6⟩
     have S6:=af (And.intro ((ae S5).1.trans' hb6) (And.intro ((ae S5).2.1.but hb6) (And.intro ((ae S5).2.2.1.but hb6) (And.intro ((ae S5).2.2.2.1.but hb6) ((ae S5).2.2.2.2.but hb6)))))
     have Q6:=af hs
     clear hs hb6 S5 D5
     go_wp2_with fail
     refine (ae I0 _).mono ?_
     rintro e w7 ⟨g0,rfl,h0,hb7⟩
     have S7:=af (And.intro ((ae S6).1.trans' hb7) (And.intro ((ae S6).2.1.but hb7) (And.intro ((ae S6).2.2.1.but hb7) (And.intro ((ae S6).2.2.2.1.but hb7) ((ae S6).2.2.2.2.but hb7)))))
     have Q7:=af (And.intro h0 ((ae Q6).but hb7))
     clear h0 hb7 S6 Q6
     obtain⟨sg,hsg⟩:∃ sg,sg=sd.num.sign:=⟨_,rfl⟩
     rw[← hsg] at SGN hB1 hB2
     clear hsg
     go_wp2_with fail
     refine (ae SGN _ _ (ae Q7).2).mono ?_
     rintro e w8 ⟨rfl,hb8⟩
     have S8:=af (And.intro ((ae S7).1.trans' hb8) (And.intro ((ae S7).2.1.but hb8) (And.intro ((ae S7).2.2.1.but hb8) (And.intro ((ae S7).2.2.2.1.but hb8) ((ae S7).2.2.2.2.but hb8)))))
     have Q8:=af (And.intro ((ae Q7).1.but hb8) ((ae Q7).2.but hb8))
     clear hb8 S7 Q7 SGN
     by_cases hsg:sg≤0
     ·obtain⟨rfl,rfl⟩:=ae hB1 hsg
      clear hB1 hB2 OWN
      go_wp2_with fail
      refine (ae I0 _).mono ?_
      rintro e w9 ⟨gB,rfl,hB,hb9⟩
      have K0:=af (And.intro ((ae S8).1.trans' hb9) (And.intro ((ae S8).2.1.but hb9) (And.intro ((ae S8).2.2.1.but hb9) (And.intro ((ae S8).2.2.2.1.but hb9) (And.intro hB ((ae Q8).1.but hb9))))))
      clear hB hb9 S8 Q8 I0
      go_wp2
      go_loopw [19,105] (fun x iv wq=>∃ i:Nat,i≤j∧iv=.int .i64 (i:Int)∧Hid ((∃ us,zae wq w9.heap.size x ((List.range i).map pr) us)∧But [] w9 wq)) (fun _ iv _=>j-(intOf iv).toNat)
      case atStart=>exact⟨0,Nat.zero_le _,rfl,⟨[],zae.empty _ _⟩,But.refl _ _⟩
      case round =>
       obtain⟨i,hi,rfl,HX⟩:=hrel
       rename World=>wq
       by_cases hlt:i<j
       ·obtain⟨-,b',off',g,f,rfl,ci,ef,ri⟩:=((ae K0).2.1.but (ae HX).2).at i hlt
        rw[List.getElem?_map,List.getElem?_range hlt] at ef
        obtain rfl:=Option.some.inj ef
        obtain⟨P1,P2,P3⟩:=ae PR i hlt
        have C1:=af (P1 wq g gA ri ((ae K0).2.2.1.but (ae HX).2))
        have P2H:=af P2
        have P3H:=af P3
        clear P1 P2 P3 ri ef
        go_wp2_with fail
        refine (ae C1).mono ?_
        rintro e v1 ⟨x1,rfl,y1,hv1⟩
        have C2:=af (ae P2H v1 g0 x1 ((ae K0).2.2.2.2.2.but ((ae HX).2.trans' hv1)) y1)
        have V1:=af hv1
        clear y1 hv1 C1 P2H
        go_wp2_with fail
        refine (ae C2).mono ?_
        rintro e v2 ⟨x2,rfl,y2,hv2⟩
        have V2:=af ((ae V1).trans' hv2)
        have C3:=af (ae P3H v2 gA x2 ((ae K0).2.2.1.but ((ae HX).2.trans' (ae V2))) y2)
        clear y2 hv2 C2 P3H V1
        go_wp2_with fail
        refine (ae C3).mono ?_
        rintro e v3 ⟨x3,rfl,y3,hv3⟩
        have V3:But [] wq v3:=(ae V2).trans' hv3
        obtain⟨V4,hV4⟩:∃ V,V=v3.alloc (.cells #[.pointer (some ⟨x3,0,none⟩)] 37):=⟨_,rfl⟩
        have bV4:But [] v3 V4:=by rw[hV4];exact (But.refl _ _).alloc _
        have cc4:V4.cell? ⟨v3.heap.size,0,none⟩=some (.pointer (some ⟨x3,0,none⟩)):=by rw[hV4];simp
        obtain⟨us,hus⟩:=(ae HX).1
        have bq:=(ae HX).2.trans' (V3.trans' bV4)
        obtain⟨o4,w4',hr4,ho4,hb4,-⟩:=zhi V4 w9 _ ((List.range i).map pr) us w9.heap.size (hus.but (V3.trans' bV4)) v3.heap.size _ (pr i) cc4 ⟨x3,rfl,y3.but bV4⟩ (by simp;omega) bq (Nat.le_refl _) bq.size
        rw[show (List.range i).map pr++[pr i]=(List.range (i+1)).map pr by rw[List.range_succ,List.map_append];rfl] at ho4
        have NX:Hid ((∃ us,zae w4' w9.heap.size o4 ((List.range (i+1)).map pr) us)∧But [] w9 w4'):=⟨⟨_,ho4⟩,hb4⟩
        rw[hV4] at hr4
        have HR4:=af hr4
        clear hr4 ho4 hb4 bq hus bV4 hV4 cc4 V3 hv3 y3 V2 C3 HX ci
        go_wp2_with (at_builtin;refine qw rfl _ _ 69 69 rfl _ _ o4 w4' rfl rfl (ae HR4) ?_)
        exact⟨⟨i+1,by omega,by go_num,ae NX⟩,by simp[intOf];omega⟩
       ·obtain rfl:i=j:=by omega
        obtain⟨⟨us,hus⟩,hbq⟩:=ae HX
        obtain⟨V5,hV5⟩:∃ V,V=wq.alloc (.cells #[.pointer (some ⟨gA,0,none⟩),.pointer (some ⟨gW,0,none⟩),.pointer (some ⟨gB,0,none⟩),.pointer (some ⟨g0,0,none⟩)] 37):=⟨_,rfl⟩
        have bV5:But [] wq V5:=by rw[hV5];exact (But.refl _ _).alloc _
        have b5:=hbq.trans' bV5
        obtain⟨k0,k1,k2,k3,k4,k5⟩:=ae K0
        have c0:V5.cell? ⟨wq.heap.size,0,none⟩=some (.pointer (some ⟨gA,0,none⟩)):=by rw[hV5];simp
        have c1:V5.cell? ⟨wq.heap.size,1,none⟩=some (.pointer (some ⟨gW,0,none⟩)):=by rw[hV5];simp
        have c2:V5.cell? ⟨wq.heap.size,2,none⟩=some (.pointer (some ⟨gB,0,none⟩)):=by rw[hV5];simp
        have c3:V5.cell? ⟨wq.heap.size,3,none⟩=some (.pointer (some ⟨g0,0,none⟩)):=by rw[hV5];simp
        have FIN:Hid (jr V5 (.slice (some ⟨wq.heap.size,0,none⟩) 4 4) [A,V,(((0:Int):Rat)),(((0:Int):Rat))]∧jr V5 u19 ((List.range i).map pr)∧But [] w V5):=by
         refine⟨⟨_,4,rfl,Nat.le_refl _,fun t f ht=>?_⟩,hus.qky.but bV5,k0.trans' b5⟩
         match t,ht with
         | 0,ht=>simp at ht;subst ht;exact⟨_,0,_,rfl,c0,gA,rfl,k2.but b5⟩
         | 1,ht=>simp at ht;subst ht;exact⟨_,0,_,rfl,c1,gW,rfl,k3.but b5⟩
         | 2,ht=>simp at ht;subst ht;exact⟨_,0,_,rfl,c2,gB,rfl,k4.but b5⟩
         | 3,ht=>simp at ht;subst ht;exact⟨_,0,_,rfl,c3,g0,rfl,k5.but b5⟩
         | t+4,ht=>simp at ht
        have HV5:=af hV5
        clear k0 k1 k2 k3 k4 k5 c0 c1 c2 c3 b5 bV5 hV5 hbq hus HX K0 PR
        go_wp2
        rw[← ae HV5]
        exact bodyPost_ret (v:=.tuple #[.slice (some ⟨wq.heap.size,0,none⟩) 4 4,u19,.int .i64 0]) (by simp[results,results23,go_sem]) rfl ⟨_,_,rfl,ae FIN⟩
     ·obtain⟨rfl,hne⟩:=ae hB2 (by omega)
      have hsg2:¬ sg≤0:=hsg
      obtain⟨OA,OD⟩:=ae OWN hne
      have OAH:=af OA
      have ODH:=af OD
      clear hB1 hB2 OWN OA OD hne I0
      go_wp2_with fail
      refine (ae OAH _ _ _ (ae Q8).2 (ae S8).2.2.2.2).mono ?_
      rintro e w9 ⟨g9,rfl,h9,hb9⟩
      have D9:=af (ae ODH _ _ _ ((ae Q8).2.but hb9) h9)
      have S9:=af (And.intro ((ae S8).1.trans' hb9) (And.intro ((ae S8).2.1.but hb9) (And.intro ((ae S8).2.2.1.but hb9) (And.intro ((ae S8).2.2.2.1.but hb9) ((ae Q8).2.but hb9)))))
      clear h9 hb9 S8 Q8 OAH ODH
      go_wp2_with fail
      refine (ae D9).mono ?_
      rintro e wa ⟨gO,rfl,hO,hba⟩
      have K0:=af (And.intro ((ae S9).1.trans' hba) (And.intro ((ae S9).2.1.but hba) (And.intro ((ae S9).2.2.1.but hba) (And.intro ((ae S9).2.2.2.1.but hba) (And.intro ((ae S9).2.2.2.2.but hba) hO)))))
      clear hO hba S9 D9
      go_wp2
      go_loopw [19,105] (fun x iv wq=>∃ i:Nat,i≤j∧iv=.int .i64 (i:Int)∧Hid ((∃ us,zae wq wa.heap.size x ((List.range i).map pr) us)∧But [] wa wq)) (fun _ iv _=>j-(intOf iv).toNat)
      case atStart=>exact⟨0,Nat.zero_le _,rfl,⟨[],zae.empty _ _⟩,But.refl _ _⟩
      case round =>
       obtain⟨i,hi,rfl,HX⟩:=hrel
       rename World=>wq
       by_cases hlt:i<j
       ·obtain⟨-,b',off',g,f,rfl,ci,ef,ri⟩:=((ae K0).2.1.but (ae HX).2).at i hlt
        rw[List.getElem?_map,List.getElem?_range hlt] at ef
        obtain rfl:=Option.some.inj ef
        obtain⟨P1,P2,P3⟩:=ae PR i hlt
        have C1:=af (P1 wq g gA ri ((ae K0).2.2.1.but (ae HX).2))
        have P2H:=af P2
        have P3H:=af P3
        clear P1 P2 P3 ri ef
        go_wp2_with fail
        refine (ae C1).mono ?_
        rintro e v1 ⟨x1,rfl,y1,hv1⟩
        have C2:=af (ae P2H v1 gO x1 ((ae K0).2.2.2.2.2.but ((ae HX).2.trans' hv1)) y1)
        have V1:=af hv1
        clear y1 hv1 C1 P2H
        go_wp2_with fail
        refine (ae C2).mono ?_
        rintro e v2 ⟨x2,rfl,y2,hv2⟩
        have V2:=af ((ae V1).trans' hv2)
        have C3:=af (ae P3H v2 gA x2 ((ae K0).2.2.1.but ((ae HX).2.trans' (ae V2))) y2)
        clear y2 hv2 C2 P3H V1
        go_wp2_with fail
        refine (ae C3).mono ?_
        rintro e v3 ⟨x3,rfl,y3,hv3⟩
        have V3:But [] wq v3:=(ae V2).trans' hv3
        obtain⟨V4,hV4⟩:∃ V,V=v3.alloc (.cells #[.pointer (some ⟨x3,0,none⟩)] 37):=⟨_,rfl⟩
        have bV4:But [] v3 V4:=by rw[hV4];exact (But.refl _ _).alloc _
        have cc4:V4.cell? ⟨v3.heap.size,0,none⟩=some (.pointer (some ⟨x3,0,none⟩)):=by rw[hV4];simp
        obtain⟨us,hus⟩:=(ae HX).1
        have bq:=(ae HX).2.trans' (V3.trans' bV4)
        obtain⟨o4,w4',hr4,ho4,hb4,-⟩:=zhi V4 wa _ ((List.range i).map pr) us wa.heap.size (hus.but (V3.trans' bV4)) v3.heap.size _ (pr i) cc4 ⟨x3,rfl,y3.but bV4⟩ (by simp;omega) bq (Nat.le_refl _) bq.size
        rw[show (List.range i).map pr++[pr i]=(List.range (i+1)).map pr by rw[List.range_succ,List.map_append];rfl] at ho4
        have NX:Hid ((∃ us,zae w4' wa.heap.size o4 ((List.range (i+1)).map pr) us)∧But [] wa w4'):=⟨⟨_,ho4⟩,hb4⟩
        rw[hV4] at hr4
        have HR4:=af hr4
        clear hr4 ho4 hb4 bq hus bV4 hV4 cc4 V3 hv3 y3 V2 C3 HX ci
        go_wp2_with (at_builtin;refine qw rfl _ _ 69 69 rfl _ _ o4 w4' rfl rfl (ae HR4) ?_)
        exact⟨⟨i+1,by omega,by go_num,ae NX⟩,by simp[intOf];omega⟩
       ·obtain rfl:i=j:=by omega
        obtain⟨⟨us,hus⟩,hbq⟩:=ae HX
        obtain⟨V5,hV5⟩:∃ V,V=wq.alloc (.cells #[.pointer (some ⟨gA,0,none⟩),.pointer (some ⟨gW,0,none⟩),.pointer (some ⟨gs,0,none⟩),.pointer (some ⟨gO,0,none⟩)] 37):=⟨_,rfl⟩
        have bV5:But [] wq V5:=by rw[hV5];exact (But.refl _ _).alloc _
        have b5:=hbq.trans' bV5
        obtain⟨k0,k1,k2,k3,k4,k5⟩:=ae K0
        have c0:V5.cell? ⟨wq.heap.size,0,none⟩=some (.pointer (some ⟨gA,0,none⟩)):=by rw[hV5];simp
        have c1:V5.cell? ⟨wq.heap.size,1,none⟩=some (.pointer (some ⟨gW,0,none⟩)):=by rw[hV5];simp
        have c2:V5.cell? ⟨wq.heap.size,2,none⟩=some (.pointer (some ⟨gs,0,none⟩)):=by rw[hV5];simp
        have c3:V5.cell? ⟨wq.heap.size,3,none⟩=some (.pointer (some ⟨gO,0,none⟩)):=by rw[hV5];simp
        have FIN:Hid (jr V5 (.slice (some ⟨wq.heap.size,0,none⟩) 4 4) [A,V,B,O]∧jr V5 u19 ((List.range i).map pr)∧But [] w V5):=by
         refine⟨⟨_,4,rfl,Nat.le_refl _,fun t f ht=>?_⟩,hus.qky.but bV5,k0.trans' b5⟩
         match t,ht with
         | 0,ht=>simp at ht;subst ht;exact⟨_,0,_,rfl,c0,gA,rfl,k2.but b5⟩
         | 1,ht=>simp at ht;subst ht;exact⟨_,0,_,rfl,c1,gW,rfl,k3.but b5⟩
         | 2,ht=>simp at ht;subst ht;exact⟨_,0,_,rfl,c2,gs,rfl,k4.but b5⟩
         | 3,ht=>simp at ht;subst ht;exact⟨_,0,_,rfl,c3,gO,rfl,k5.but b5⟩
         | t+4,ht=>simp at ht
        have HV5:=af hV5
        clear k0 k1 k2 k3 k4 k5 c0 c1 c2 c3 b5 bV5 hV5 hbq hus HX K0 PR
        go_wp2
        rw[← ae HV5]
        exact bodyPost_ret (v:=.tuple #[.slice (some ⟨wq.heap.size,0,none⟩) 4 4,u19,.int .i64 0]) (by simp[results,results23,go_sem]) rfl ⟨_,_,rfl,ae FIN⟩
theorem qdw (q:Option Addr) (n cap:Nat) (rs:List (List (Int × Int))) (w:World) (hv:zcz w (.slice q n cap) rs) (hn:n≤2000000) (ht:∀ k,k≤n→zkb rs k≤2000000) (most:Int) :
  Calls prog 20 #[.slice q n cap,.int .i64 most] w fun e w'=>e=.returned (.bool (decide (((n+zkb rs n:Nat):Int)≤most)))∧But [] w w':=by
 obtain⟨bl,hbl⟩:∃ bl,bl=decide (((n+zkb rs n:Nat):Int)≤most):=⟨_,rfl⟩
 rw[← hbl]
 have HBL:=af hbl
 have HV:=af hv
 have HT:=af ht
 clear hv ht hbl
 go_enter func20,ntmps20
 go_wp2
 go_loopw [5,6] (fun nv kv wr=>∃ k t:Nat,k≤n∧kv=.int .i64 (k:Int)∧nv=.int .i64 (t:Int)∧t≤5000000∧Hid (t=n+zkb rs k∧wr=w)) (fun _ kv _=>n-(intOf kv).toNat)
 case atStart=>exact⟨0,n,by omega,rfl,rfl,by omega,rfl,rfl⟩
 case round =>
  obtain⟨k,t,hk,rfl,rfl,ht6,HJ⟩:=hrel
  rename World=>wj
  obtain⟨hte,rfl⟩:=ae HJ
  have HTE:=af hte
  clear HJ hte
  by_cases hlt:k<n
  ·obtain⟨b,off,ak,ck,rfl,hck,-⟩:=(ae HV).at k hlt
   obtain⟨lk,hlk⟩:∃ lk,lk=(rs[k]?.getD []).length:=⟨_,rfl⟩
   rw[← hlk] at hck
   have hs:zkb rs (k+1)=zkb rs k+lk:=by rw[hlk];rfl
   have h1:=ae HT (k+1) hlt
   have h2:=ae HTE
   have hb5:t+lk≤5000000:=by omega
   have HS:=af (And.intro hs (And.intro h1 h2))
   clear hlk hs h1 h2
   go_wp2
   refine⟨⟨k+1,t+lk,by omega,by go_num,by go_num,hb5,?_,by first|rfl | trivial⟩,by simp[intOf];omega⟩
   have:=ae HS
   omega
  ·obtain rfl:k=n:=by omega
   go_wp2
   go_ret
   refine⟨?_,But.refl _ _⟩
   rw[ae HBL,← ae HTE]
   rfl
theorem qgn (rs:List (List (Int × Int))) (i:Nat):(zgb rs)[i]?.getD []=(rs[i]?.getD []).map qf:=by
 unfold zgb
 rw[List.getElem?_map]
 cases rs[i]? <;> rfl
theorem qgj (q:Option Addr) (n cap:Nat) (w:World) (FEW:Calls prog 20 #[.slice q n cap,.int .i64 150] w fun e w'=>e=.returned (.bool false)∧But [] w w') :
  Calls prog 5 #[.slice q n cap] w fun e w'=>e=.returned (.bool true)∧But [] w w':=by
 have FH:=af FEW
 clear FEW
 go_enter func5,ntmps5
 go_wp2_with fail
 refine (ae FH).mono ?_
 rintro e w1 ⟨rfl,hb⟩
 have B:=af hb
 clear hb FH
 go_wp2
 go_ret
 exact⟨rfl,ae B⟩
theorem zyi (q:Option Addr) (n cap:Nat) (ls:List (List Rat)) (z:Int) (hz:(z != 0)=true) (w:World)
  (FEW:Calls prog 20 #[.slice q n cap,.int .i64 150] w fun e w'=>e=.returned (.bool true)∧But [] w w')
  (RW:∀ W,But [] w W→Calls prog 22 #[.slice q n cap] W fun e w'=>∃ v',e=.returned v'∧wu w' v' ls∧But [] W w')
  (RR:∀ W,But [] w W→Calls prog 24 #[.slice q n cap] W fun e w'=>∃ v',e=.returned v'∧zaj w' v' n (fun i=>ls[i]?.getD [])∧But [] W w')
  (TE:∀ W,But [] w W→Calls prog 8 #[.iface 33 (.int .i64 z)] W fun e w'=>e=.returned (.int .i64 z)∧But [] W w')
  (ES:∀ W v,wu W v ls→Calls prog 21 #[v] W fun e w'=>e=.returned (.tuple #[.agg #[.bool false,.int .u64 0,.int .u64 0,.pointer none,.bool false,.int .u64 0,.int .u64 0,.pointer none,.bool false,.int .u64 0,.int .u64 0,.pointer none,.bool false,.int .u64 0,.int .u64 0,.pointer none,.slice none 0 0],.iface 33 (.int .i64 z)])∧But [] W w')
  (RE:∀ W v,zaj W v n (fun i=>ls[i]?.getD [])→Calls prog 23 #[v] W fun e w'=>e=.returned (.tuple #[.slice none 0 0,.slice none 0 0,.int .i64 z])∧But [] W w') :
  Calls prog 5 #[.slice q n cap] w fun e w'=>e=.returned (.bool true)∧But [] w w':=by
 have TEH:=af TE
 clear TE
 have ZS:Hid (∀ W,Calls prog 25 #[.agg #[.bool false,.int .u64 0,.int .u64 0,.pointer none]] W fun e w'=>e=.returned (.int .i64 0)∧But [] W w'):=fun W=>j6 _ 0 W (jb _)
 have FH:=af FEW
 have RWH:=af RW
 have ESH:=af ES
 have RRH:=af RR
 have REH:=af RE
 clear FEW RW ES RR RE
 go_enter func5,ntmps5
 go_wp2_with fail
 refine (ae FH).mono ?_
 rintro e w1 ⟨rfl,hb1⟩
 have B1:=af hb1
 clear hb1 FH
 go_wp2_with fail
 refine (ae RWH _ (ae B1)).mono ?_
 rintro e w2 ⟨v2,rfl,hL,hb2⟩
 have E2:=af (ae ESH _ _ hL)
 have B2:=af ((ae B1).trans' hb2)
 clear hL hb2 B1 RWH ESH
 go_wp2_with fail
 refine (ae E2).mono ?_
 rintro e w3 ⟨rfl,hb3⟩
 have bA3:But [] w3 (w3.alloc (.cells #[.bool false,.int .u64 0,.int .u64 0,.pointer none,.bool false,.int .u64 0,.int .u64 0,.pointer none,.bool false,.int .u64 0,.int .u64 0,.pointer none,.bool false,.int .u64 0,.int .u64 0,.pointer none,.slice none 0 0] 64)):=(But.refl _ _).alloc _
 have B3:=af ((ae B2).trans' (hb3.trans' bA3))
 have X3:Hid (xg (w3.alloc (.cells #[.bool false,.int .u64 0,.int .u64 0,.pointer none,.bool false,.int .u64 0,.int .u64 0,.pointer none,.bool false,.int .u64 0,.int .u64 0,.pointer none,.bool false,.int .u64 0,.int .u64 0,.pointer none,.slice none 0 0] 64)) w3.heap.size [.bool false,.int .u64 0,.int .u64 0,.pointer none,.bool false,.int .u64 0,.int .u64 0,.pointer none,.bool false,.int .u64 0,.int .u64 0,.pointer none,.bool false,.int .u64 0,.int .u64 0,.pointer none,.slice none 0 0]):=xg.new w3 _ _
 clear hb3 bA3 B2 E2
 go_wp2_with fail
 generalize w3.heap.size=g3 at *
 generalize w3.alloc (.cells #[.bool false,.int .u64 0,.int .u64 0,.pointer none,.bool false,.int .u64 0,.int .u64 0,.pointer none,.bool false,.int .u64 0,.int .u64 0,.pointer none,.bool false,.int .u64 0,.int .u64 0,.pointer none,.slice none 0 0] 64)=V3 at *
 refine (ae RRH _ (ae B3)).mono ?_
 rintro e w4 ⟨v4,rfl,hR,hb4⟩
 have E4:=af (ae REH _ _ hR)
 have B4:=af ((ae B3).trans' hb4)
 have X4:=af ((ae X3).but hb4 (by simp) (by simp))
 clear hR hb4 B3 X3 RRH REH
 go_wp2_with fail
 refine (ae E4).mono ?_
 rintro e w5 ⟨rfl,hb5⟩
 have B5:=af ((ae B4).trans' hb5)
 have X5:=af ((ae X4).but hb5 (by simp) (by simp))
 clear hb5 B4 X4 E4
 go_wp2_with fail
 refine (ae TEH _ (ae B5)).mono ?_
 rintro e w6 ⟨rfl,hb6⟩
 have B6:=af ((ae B5).trans' hb6)
 have x6:=(ae X5).but hb6 (by simp) (by simp)
 have m0:=x6.cells 0 _ rfl
 have m1:=x6.cells 1 _ rfl
 have m2:=x6.cells 2 _ rfl
 have m3:=x6.cells 3 _ rfl
 have m4:=x6.cells 4 _ rfl
 have m5:=x6.cells 5 _ rfl
 have m6:=x6.cells 6 _ rfl
 have m7:=x6.cells 7 _ rfl
 have m8:=x6.cells 8 _ rfl
 have m9:=x6.cells 9 _ rfl
 have m10:=x6.cells 10 _ rfl
 have m11:=x6.cells 11 _ rfl
 have m12:=x6.cells 12 _ rfl
 have m13:=x6.cells 13 _ rfl
 have m14:=x6.cells 14 _ rfl
 have m15:=x6.cells 15 _ rfl
 have m16:=x6.cells 16 _ rfl
 clear hb6 B5 X5 TEH x6
 go_wp2_with fail
 refine (ae ZS _).mono ?_
 rintro e w7 ⟨rfl,hb⟩
 have B7:=af ((ae B6).trans' hb)
 replace m4:=hb.ag m4 (by simp)
 replace m5:=hb.ag m5 (by simp)
 replace m6:=hb.ag m6 (by simp)
 replace m7:=hb.ag m7 (by simp)
 replace m8:=hb.ag m8 (by simp)
 replace m9:=hb.ag m9 (by simp)
 replace m10:=hb.ag m10 (by simp)
 replace m11:=hb.ag m11 (by simp)
 replace m12:=hb.ag m12 (by simp)
 replace m13:=hb.ag m13 (by simp)
 replace m14:=hb.ag m14 (by simp)
 replace m15:=hb.ag m15 (by simp)
 clear hb B6 m0 m1 m2 m3 m16
 go_wp2_with fail
 refine (ae ZS _).mono ?_
 rintro e w8 ⟨rfl,hb⟩
 have B8:=af ((ae B7).trans' hb)
 replace m8:=hb.ag m8 (by simp)
 replace m9:=hb.ag m9 (by simp)
 replace m10:=hb.ag m10 (by simp)
 replace m11:=hb.ag m11 (by simp)
 replace m12:=hb.ag m12 (by simp)
 replace m13:=hb.ag m13 (by simp)
 replace m14:=hb.ag m14 (by simp)
 replace m15:=hb.ag m15 (by simp)
 clear hb B7 m4 m5 m6 m7
 go_wp2_with fail
 refine (ae ZS _).mono ?_
 rintro e w9 ⟨rfl,hb⟩
 have B9:=af ((ae B8).trans' hb)
 replace m12:=hb.ag m12 (by simp)
 replace m13:=hb.ag m13 (by simp)
 replace m14:=hb.ag m14 (by simp)
 replace m15:=hb.ag m15 (by simp)
 clear hb B8 m8 m9 m10 m11
 go_wp2_with fail
 refine (ae ZS _).mono ?_
 rintro e wa ⟨rfl,hb⟩
 have Ba:=af ((ae B9).trans' hb)
 clear hb B9 m12 m13 m14 m15
 go_wp2
 go_ret
 exact⟨rfl,ae Ba⟩
theorem qgk (q:Option Addr) (n cap:Nat) (ls:List (List Rat)) (m:Nat) (A V B O:Rat) (PR:Nat→Rat) (w:World)
  (FEW:Calls prog 20 #[.slice q n cap,.int .i64 150] w fun e w'=>e=.returned (.bool true)∧But [] w w')
  (RW:∀ W,But [] w W→Calls prog 22 #[.slice q n cap] W fun e w'=>∃ v',e=.returned v'∧wu w' v' ls∧But [] W w')
  (RR:∀ W,But [] w W→Calls prog 24 #[.slice q n cap] W fun e w'=>∃ v',e=.returned v'∧zaj w' v' n (fun i=>ls[i]?.getD [])∧But [] W w')
  (ES:∀ W v,wu W v ls→Calls prog 21 #[v] W fun e w'=>∃ v',e=.returned (.tuple #[v',.nilIface])∧(∃ Bz,zeg A V B O Bz n PR w' v')∧But [] W w')
  (RE:∀ W v,zaj W v n (fun i=>ls[i]?.getD [])→Calls prog 23 #[v] W fun e w'=>∃ v1 v2,e=.returned (.tuple #[v1,v2,.int .i64 0])∧jr w' v1 [A,V,B,O]∧jr w' v2 ((List.range n).map PR)∧But [] W w')
  (TX:∀ f,f=A∨f=V∨f=B∨f=O→∀ W v,But [] w W→aq W v f→Calls prog 9 #[v] W fun e w'=>e=.returned (.string (zan f))∧But [] W w')
  (R1:∀ W v,But [] w W→jr W v [A,V,B,O]→Calls prog 27 #[v] W fun e w'=>∃ v',e=.returned v'∧vw w' v' [zan A,zan V,zan B,zan O]∧But [] W w')
  (R2:∀ W v,But [] w W→jr W v ((List.range n).map PR)→Calls prog 27 #[v] W fun e w'=>∃ v',e=.returned v'∧vw w' v' (((List.range n).map PR).map zan)∧But [] W w')
  (PT:∀ W v,But [] w W→au W v ((List.range n).map PR)→Calls prog 28 #[v] W fun e w'=>∃ v',e=.returned v'∧vw w' v' (((List.range n).map PR).map zan)∧But [] W w')
  (SM:∀ W a b ts,(ts=[zan A,zan V,zan B,zan O]∨ts=((List.range n).map PR).map zan)→vw W a ts→vw W b ts→Calls prog 26 #[a,b] W fun e w'=>e=.returned (.bool true)∧But [] W w') :
  Calls prog 5 #[.slice q n cap] w fun e w'=>e=.returned (.bool true)∧But [] w w':=by
 have TXH:=af TX
 have R1H:=af R1
 have R2H:=af R2
 have PTH:=af PT
 have SMH:=af SM
 clear TX R1 R2 PT SM
 have FH:=af FEW
 have RWH:=af RW
 have ESH:=af ES
 have RRH:=af RR
 have REH:=af RE
 clear FEW RW ES RR RE
 go_enter func5,ntmps5
 go_wp2_with fail
 refine (ae FH).mono ?_
 rintro e w1 ⟨rfl,hb1⟩
 have B1:=af hb1
 clear hb1 FH
 go_wp2_with fail
 refine (ae RWH _ (ae B1)).mono ?_
 rintro e w2 ⟨v2,rfl,hL,hb2⟩
 have E2:=af (ae ESH _ _ hL)
 have B2:=af ((ae B1).trans' hb2)
 clear hL hb2 B1 RWH ESH
 go_wp2_with fail
 refine (ae E2).mono ?_
 rintro e w3 ⟨v3,rfl,⟨Bz,s1,x1,y1,p1,s2,x2,y2,p2,s3,x3,y3,p3,s4,x4,y4,p4,gp,rfl,f1,f2,f3,f4,hfr⟩,hb3⟩
 have bA3:But [] w3 (w3.alloc (.cells #[.bool s1,.int .u64 x1,.int .u64 y1,.pointer p1,.bool s2,.int .u64 x2,.int .u64 y2,.pointer p2,.bool s3,.int .u64 x3,.int .u64 y3,.pointer p3,.bool s4,.int .u64 x4,.int .u64 y4,.pointer p4,.slice (some ⟨gp,0,none⟩) n n] 64)):=(But.refl _ _).alloc _
 have B3:=af ((ae B2).trans' (hb3.trans' bA3))
 have X3:Hid (xg (w3.alloc (.cells #[.bool s1,.int .u64 x1,.int .u64 y1,.pointer p1,.bool s2,.int .u64 x2,.int .u64 y2,.pointer p2,.bool s3,.int .u64 x3,.int .u64 y3,.pointer p3,.bool s4,.int .u64 x4,.int .u64 y4,.pointer p4,.slice (some ⟨gp,0,none⟩) n n] 64)) w3.heap.size [.bool s1,.int .u64 x1,.int .u64 y1,.pointer p1,.bool s2,.int .u64 x2,.int .u64 y2,.pointer p2,.bool s3,.int .u64 x3,.int .u64 y3,.pointer p3,.bool s4,.int .u64 x4,.int .u64 y4,.pointer p4,.slice (some ⟨gp,0,none⟩) n n]):=xg.new w3 _ _
 have FF:=af (And.intro (f1.but bA3) (And.intro (f2.but bA3) (And.intro (f3.but bA3) (And.intro (f4.but bA3) (hfr.1.zme.but bA3)))))
 clear hb3 bA3 B2 E2 f1 f2 f3 f4 hfr
 go_wp2_with fail
 generalize w3.heap.size=g3 at *
 generalize w3.alloc (.cells #[.bool s1,.int .u64 x1,.int .u64 y1,.pointer p1,.bool s2,.int .u64 x2,.int .u64 y2,.pointer p2,.bool s3,.int .u64 x3,.int .u64 y3,.pointer p3,.bool s4,.int .u64 x4,.int .u64 y4,.pointer p4,.slice (some ⟨gp,0,none⟩) n n] 64)=V3 at *
 refine (ae RRH _ (ae B3)).mono ?_
 rintro e w4 ⟨v4,rfl,hR,hb4⟩
 have E4:=af (ae REH _ _ hR)
 have B4:=af ((ae B3).trans' hb4)
 have X4:=af ((ae X3).but hb4 (by simp) (by simp))
 have FB:=af hb4
 clear hR hb4 B3 X3 RRH REH
 go_wp2_with fail
 refine (ae E4).mono ?_
 rintro e w5 ⟨v5,v6,rfl,r5,r6,hb5⟩
 have B5:=af ((ae B4).trans' hb5)
 have X5:=af ((ae X4).but hb5 (by simp) (by simp))
 have bF:=(ae FB).trans' hb5
 obtain⟨f1,f2,f3,f4,f5⟩:=ae FF
 have FG:=af (And.intro (f1.but bF) (And.intro (f2.but bF) (And.intro (f3.but bF) (And.intro (f4.but bF) (f5.but bF)))))
 have RG:=af (And.intro r5 r6)
 clear hb5 B4 X4 E4 f1 f2 f3 f4 f5 r5 r6 FF bF FB
 go_wp2
 have CA:=fun (k:Nat) (v:Value) (h:_)=>(ae X5).cells k v h
 refine zvs 7 _ _ w5 g3 n n (some ⟨gp,0,none⟩) v5 v6 (((List.range n).map PR).map zan) (zan A) (zan V) (zan B) (zan O) s1 x1 y1 p1 s2 x2 y2 p2 s3 x3 y3 p3 s4 x4 y4 p4 (by simp) (by simp[Act.eval]) (by simp[Act.eval]) (by simp[Act.eval]) (by simp[Act.eval]) (CA 16 _ rfl) ⟨CA 0 _ rfl,CA 1 _ rfl,CA 2 _ rfl,CA 3 _ rfl⟩ ⟨CA 4 _ rfl,CA 5 _ rfl,CA 6 _ rfl,CA 7 _ rfl⟩ ⟨CA 8 _ rfl,CA 9 _ rfl,CA 10 _ rfl,CA 11 _ rfl⟩ ⟨CA 12 _ rfl,CA 13 _ rfl,CA 14 _ rfl,CA 15 _ rfl⟩ (fun W hb=>ae TXH A (.inl rfl) W _ ((ae B5).trans' hb) ((ae FG).1.but hb)) (fun W hb=>ae TXH V (.inr (.inl rfl)) W _ ((ae B5).trans' hb) ((ae FG).2.1.but hb)) (fun W hb=>ae TXH B (.inr (.inr (.inl rfl))) W _ ((ae B5).trans' hb) ((ae FG).2.2.1.but hb)) (fun W hb=>ae TXH O (.inr (.inr (.inr rfl))) W _ ((ae B5).trans' hb) ((ae FG).2.2.2.1.but hb)) (fun W hb=>ae R1H W _ ((ae B5).trans' hb) ((ae RG).1.but hb)) (fun W hb=>ae PTH W _ ((ae B5).trans' hb) ((ae FG).2.2.2.2.but hb)) (fun W hb=>ae R2H W _ ((ae B5).trans' hb) ((ae RG).2.but hb)) (fun W g y hg hy=>ae SMH W _ _ _ (.inl rfl) hg.qjk hy) (fun W x y hx hy=>ae SMH W _ _ _ (.inr rfl) hx hy) ?_
 intro gs ta tb tc w6 hP
 simp only[bk,List.foldl_cons,List.foldl_nil,Act.put,List.setIfInBounds_toArray,List.set_cons_zero,List.set_cons_succ]
 have B6:=af ((ae B5).trans' hP.mem)
 clear hP B5 X5 FG RG TXH R1H R2H PTH SMH CA
 go_wp2
 go_ret
 exact⟨rfl,ae B6⟩
theorem zuv {P:Nat→Prop}:∀ n,(∃ t,t<n∧¬ P t)→∃ m,m<n∧¬ P m∧∀ i,i<m→P i
 | 0,⟨t,h,_⟩=>by omega
 | n+1,⟨t,h,hp⟩=>by
  by_cases h1:∃ t,t<n∧¬ P t
  ·obtain⟨m,a,b,c⟩:=zuv n h1
   exact⟨m,by omega,b,c⟩
  ·refine⟨t,h,hp,fun i hi=>?_⟩
   by_cases e:P i
   ·exact e
   ·exact absurd ⟨i,by omega,e⟩ h1
theorem zsi (v:Value) (rs:List (List (Int × Int))) (w:World) (hv:zcz w v rs) (hf:∀ r ∈ rs,∀ z ∈ r,Fits z) (hb:rs.length+zkb rs rs.length≤1500000)
  (htab:Lib.TabIs prog w "internal/strconv.uint64pow10" .u64 Lib.pow10Tab) (herr:w.cell? ⟨0,0,none⟩=some (.iface 183 (.agg #[.pointer (some ⟨6,29,none⟩)]))) :
  Calls prog 5 #[v] w fun e w'=>e=.returned (.bool true)∧But [] w w':=by
 obtain⟨q,cap,e0,-⟩:=id hv
 obtain⟨n,hn⟩:∃ n,n=rs.length:=⟨_,rfl⟩
 rw[← hn] at e0 hb
 subst e0
 have tk:∀ k,k≤n→zkb rs k≤2000000:=fun k hk=>by
  have:=qcs (fun j=>(rs[j]?.getD []).length) n k hk
  unfold zkb at hb ⊢
  omega
 have FW:=qdw q n cap rs w hv (by omega) tk 150
 by_cases hfew:¬ ((n+zkb rs n:Nat):Int)≤150
 ·rw[decide_eq_false hfew] at FW
  exact qgj q n cap w FW
 have hsm:n+zkb rs n≤150:=by omega
 rw[decide_eq_true (by omega)] at FW
 have tl:∀ i,i<n→(rs[i]?.getD []).length≤150:=fun i hi=>by
  have:=qjm rs n i hi
  omega
 obtain⟨ls,hls⟩:∃ ls,ls=zgb rs:=⟨_,rfl⟩
 have hlen:ls.length=n:=by rw[hls];unfold zgb;rw[List.length_map];exact hn.symm
 have hget:∀ i,ls[i]?.getD []=(rs[i]?.getD []).map qf:=fun i=>by rw[hls];exact qgn rs i
 have hrl:∀ i,(ls[i]?.getD []).length=(rs[i]?.getD []).length:=fun i=>by rw[hget,List.length_map]
 have RW:∀ W,But [] w W→Calls prog 22 #[.slice q n cap] W fun e w'=>∃ v',e=.returned v'∧wu w' v' ls∧But [] W w':=fun W h=>by
  rw[hls]
  exact ztk q n cap rs W (hv.but h) hn (by omega) (fun i hi=>by have:=tl i hi;omega) hf
 have RR:∀ W,But [] w W→Calls prog 24 #[.slice q n cap] W fun e w'=>∃ v',e=.returned v'∧zaj w' v' n (fun i=>ls[i]?.getD [])∧But [] W w':=fun W h=>by
  rw[show (fun i=>ls[i]?.getD [])=fun i=>(rs[i]?.getD []).map qf from funext hget]
  exact (zys q n cap rs W (hv.but h) hn (by omega) (fun i hi=>by have:=tl i hi;omega) hf).mono fun e w' ⟨v',us,he,ho,hb⟩=>⟨v',he,ho.rows,hb⟩
 have TE:∀ z:Int,∀ W,But [] w W→Calls prog 8 #[.iface 33 (.int .i64 z)] W fun e w'=>e=.returned (.int .i64 z)∧But [] W w':=fun z W h=>zqc z W (h.ag herr (by simp))
 have form:∀ W v,wu W v ls→∃ a c,v=.slice a n c:=fun W v h=>by
  obtain⟨a,c,e,-⟩:=h
  exact⟨a,c,by rw[← hlen];exact e⟩
 have EB:zle ls≠0→∀ W v,wu W v ls→Calls prog 21 #[v] W fun e w'=>e=.returned (.tuple #[.agg #[.bool false,.int .u64 0,.int .u64 0,.pointer none,.bool false,.int .u64 0,.int .u64 0,.pointer none,.bool false,.int .u64 0,.int .u64 0,.pointer none,.bool false,.int .u64 0,.int .u64 0,.pointer none,.slice none 0 0],.iface 33 (.int .i64 (zle ls))])∧But [] W w':=fun hne W v h=>by
  obtain⟨a,c,rfl⟩:=form W v h
  exact zwy a n c ls W h hlen.symm (by omega) (fun i hi=>by rw[hrl];have:=tl i hi;omega) hne
 by_cases hlim:¬ (2≤n∧n≤40)∨¬ (2≤(ls[0]?.getD []).length∧(ls[0]?.getD []).length≤40)
 ·have e4:zle ls=4:=by unfold zle;rw[hlen,if_pos hlim]
  rw[e4] at EB
  exact zyi q n cap ls 4 (by decide) w FW RW RR (TE 4) (EB (by decide)) (fun W v h=>zvz v n _ W h (by omega))
 have hl1:2≤n∧n≤40:=by omega
 have hl2:2≤(ls[0]?.getD []).length∧(ls[0]?.getD []).length≤40:=by omega
 by_cases hodd:∃ t,t<n∧¬ (ls[t]?.getD []).length=(ls[0]?.getD []).length
 ·have e3:zle ls=3:=by
   unfold zle
   rw[hlen,if_neg hlim,if_pos]
   obtain⟨t,ht,h⟩:=hodd
   refine List.any_eq_true.2 ⟨ls[t]?.getD [],?_,by simpa using h⟩
   rw[List.getElem?_eq_getElem (by omega)]
   exact List.getElem_mem _
  rw[e3] at EB
  obtain⟨m,hm,hmb,hmg⟩:=zuv (P:=fun t=>(ls[t]?.getD []).length=(ls[0]?.getD []).length) n hodd
  exact zyi q n cap ls 3 (by decide) w FW RW RR (TE 3) (EB (by decide)) (fun W v h=>zyu v n _ m _ W h hl1.1 hl1.2 rfl hl2.1 hl2.2 hm hmg hmb)
 have hall:∀ i,i<n→(ls[i]?.getD []).length=(ls[0]?.getD []).length:=fun i hi=>Classical.byContradiction fun h=>hodd ⟨i,hi,h⟩
 have e0:zle ls=0:=by
  unfold zle
  rw[hlen,if_neg hlim,if_neg]
  intro h
  obtain⟨l,hl,hx⟩:=List.any_eq_true.1 h
  obtain⟨t,ht,rfl⟩:=List.mem_iff_getElem.1 hl
  refine hodd ⟨t,by omega,?_⟩
  rw[List.getElem?_eq_getElem ht]
  simpa using hx
 clear EB TE
 obtain⟨m,hm⟩:∃ m,m=(ls[0]?.getD []).length:=⟨_,rfl⟩
 rw[← hm] at hall hl2
 have lf:∀ i j,i<n→j<m→Len (atR (ls[i]?.getD []) j) 1:=fun i j hi hj=>by
  rw[hls]
  exact qkw rs hf i j (by omega) (by rw[← hls,hall i hi];exact hj)
 obtain⟨-,-,hne,hsum⟩:=qbo ls m n hl2.1 hl1.1
 obtain⟨lA,lP,-⟩:=qzx ls m n hl2.1 hl2.2 hl1.1 hl1.2 lf
 have lr:∀ i,i<n→Len (rmR ls m i) 82∧Len (rsR ls m i) 330:=fun i hi=>by
  obtain⟨h1,h2,-,-⟩:=yw (atR (ls[i]?.getD [])) m 1 hl2.1 hl2.2 (fun k hk=>lf i k hi hk)
  exact⟨h1.mono (by omega),h2.mono (by omega)⟩
 obtain⟨-,lS,-,-⟩:=yw (rmR ls m) n 82 hl1.1 hl1.2 (fun k hk=>(lr k hk).1)
 obtain⟨lW,-,-,-⟩:=yw (rsR ls m) n 330 hl1.1 hl1.2 (fun k hk=>(lr k hk).2)
 have lV:Len (esW ls m n) 13242:=lW
 have lD:Len (esD ls m n) 13243:=ru lV (kr (m:Int) (by omega)) (by rw[(bp (m:Int)).1];omega) 13243 (by omega)
 have lB:Len (esB ls m n) 26535:=zma (fe lS lD 26535 (by omega)) (by omega)
 have lO:Len (esO ls m n) 66500:=by
  show Len (zaz (esB ls m n) (esD ls m n)) 66500
  unfold zaz
  by_cases h:(esB ls m n).num=0
  ·rw[if_pos h];exact zbw _ (by omega)
  ·rw[if_neg h]
   exact ru lB (mi lB lD 39779 (by omega)) (hne h) _ (by omega)
 have four:∀ f,f=esA ls m n∨f=esW ls m n∨f=esB ls m n∨f=esO ls m n→Len f 1000000:=fun f h=>by
  rcases h with rfl|rfl|rfl|rfl
  ·exact lA.mono (by omega)
  ·exact lV.mono (by omega)
  ·exact lB.mono (by omega)
  ·exact lO.mono (by omega)
 have many:∀ f ∈ (List.range n).map (esP ls m n),Len f 1000000:=fun f h=>by
  obtain⟨j,hj,rfl⟩:=List.mem_map.1 h
  exact (lP j (List.mem_range.1 hj)).mono (by omega)
 refine qgk q n cap ls m (esA ls m n) (esW ls m n) (esB ls m n) (esO ls m n) (esP ls m n) w FW RW RR (fun W v h=>?_) (fun W v h=>qgo v n m ls W h hlen.symm hall hl1.1 hl1.2 hl2.1 hl2.2 lf hne)
  (fun f h W v hb hv=>zbz v f W hv ((four f h).mono (by omega)) (TabIs.but htab hb) (zan f) rfl)
  (fun W v hb h=>(zlf v _ W h (fun f hf=>four f (by simpa using hf)) (by simp)).mono fun e w' ⟨v',he,ho,hb⟩=>⟨v',he,ho.qjk,hb⟩)
  (fun W v hb h=>(zlf v _ W h many (by simp;omega)).mono fun e w' ⟨v',he,ho,hb⟩=>⟨v',he,ho.qjk,hb⟩)
  (fun W v hb h=>(zqz v _ W h many (by simp;omega) (TabIs.but htab hb)).mono fun e w' ⟨v',he,ho,hb⟩=>⟨v',he,ho.qjk,hb⟩)
  (fun W a b ts hts ha hb=>same_eq a b ts W ha hb (by rcases hts with rfl|rfl <;> simp <;> omega))
 obtain⟨a,c,rfl⟩:=form W v h
 obtain⟨b,off,u,ha,-,-⟩:∃ b off u,a=some ⟨b,off,none⟩∧W.cell? ⟨b,off+0,none⟩=some u∧au W u (ls[0]'(by omega)):=by
  obtain⟨a',c',e,-,h'⟩:=id h
  simp only[Value.slice.injEq] at e
  obtain⟨rfl,-,-⟩:=e
  exact h' 0 _ (List.getElem?_eq_getElem (by omega))
 subst ha
 exact (qbn b off c n m ls W h hlen.symm hall hl1.1 hl1.2 hl2.1 hl2.2 lf hne e0).mono fun e w' ⟨v',he,ho,hb⟩=>⟨v',he,⟨_,ho⟩,hb⟩
end Go.Proofs.YtffghofheeleeaaGreatDoor
