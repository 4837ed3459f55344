/- OrderSays at every input.  -/
import Derived.Test.YtagmkkiagjmimaaGreatDoorXKYr
import Derived.Test.YtagmkkiagjmimaaGreatDoorXKYs
import Derived.Test.YtagmkkiagjmimaaGreatDoorXOD
namespace Go.Proofs.YtagmkkiagjmimaaGreatDoor
open Go.Proofs.Tryz
open Go.RowKit
set_option maxHeartbeats 8000000
set_option maxRecDepth 100000
set_option linter.unusedVariables false
theorem zsw (ab:Nat→Bool) (n:Nat):∃ bl f,nk ab n bl f:=by(
 rcases znv (fun x=>ab x=false) n with h|⟨q,h1,h2,h3⟩
 ·exact⟨true,0,.inl ⟨rfl,rfl,h⟩⟩
 ·exact⟨false,q,.inr ⟨rfl,h1,by simpa using h3,h2⟩⟩)
theorem qcv {fs:List Rat} (lf:∀ f ∈ fs,Len f 1) (h:fs.length≤201) (x:Nat):qd (byR fs x) 1000000 :=
 (zcj (c:=2) fs.length (fun i hi=>by
  show qd (if x<i then atR fs i else 0) 2
  split
  ·exact zea lf i hi
  ·exact qd.int (z:=0) (by decide))).mono (by
  have:fs.length*(2+1)≤201*3:=Nat.mul_le_mul h (Nat.le_refl _)
  omega)
theorem qcd {fs:List Rat} (lf:∀ f ∈ fs,Len f 1) (h:fs.length≤201) (x:Nat) (hx:x≤1000):qd (dyR fs x) 1000000 :=
 (zcj (c:=4) fs.length (fun i hi=>by
  show qd (if x<i then ((((i:Int)-(x:Int):Int)):Rat)*atR fs i else 0) 4
  split
  ·exact ((qd.int (by omega)).mul (zea lf i hi)).mono (by omega)
  ·exact (qd.int (z:=0) (by decide)).mono (by omega))).mono (by
  have:fs.length*(4+1)≤201*5:=Nat.mul_le_mul h (Nat.le_refl _)
  omega)
theorem qbn {w:World} {go ga n m:Nat} {G:Nat→Rat} (h:zmh w go ga n m G) (M:Nat→Nat→Rat) (hM:∀ i k,i<n→k<m→G (i*m+k)=M i k):zcr w (.slice (some ⟨go,0,none⟩) n n) n (fun i=>(List.range m).map (M i)):=by(
 refine⟨some ⟨go,0,none⟩,n,rfl,Nat.le_refl _,fun i hi=>⟨go,0,_,rfl,by rw[Nat.zero_add];exact h.rows i hi,?_⟩⟩
 refine⟨some ⟨ga,i*m*4,none⟩,m,by simp,by simp,fun k f hk=>⟨ga,i*m*4,rfl,?_⟩⟩
 have hkm:k<m:=by
  have:=(List.getElem?_eq_some_iff.1 hk).1
  simpa using this
 rw[List.getElem?_map,List.getElem?_range hkm] at hk
 simp only[Option.map_some,Option.some.injEq] at hk
 subst hk
 have hlt:i*m+k<n*m:=by
  have h1:(i+1)*m≤n*m:=Nat.mul_le_mul_right m hi
  rw[Nat.succ_mul] at h1
  omega
 have:=h.all.told (i*m+k) hlt
 rw[hM i k hi hkm,show (i*m+k)*4=i*m*4+k*4 from Nat.add_mul _ _ _] at this
 exact this)
theorem qbc {fs gs:List Rat} (la:∀ f ∈ fs,Len f 1) (lb:∀ f ∈ gs,Len f 1) (hn:fs.length≤40) (hm:gs.length≤40) (i k:Nat) (hi:i<fs.length) (hk:k<gs.length):qd (zlj (atR fs) (atR gs) i k) 1000:=by(
 have ls:∀ (xs:List Rat),(∀ f ∈ xs,Len f 1)→xs.length≤40→∀ k,k≤xs.length→qd (sgR (atR xs) k) 200:=fun xs h hx k hk=>(zcj (F:=atR xs) (c:=2) k (fun i hi=>zea h i (by omega))).mono (by omega)
 have l1:qd (zsq (atR fs) (atR gs) i k) 200:=by
  unfold zsq
  split
  ·exact ls gs lb hm _ (by omega)
  ·exact ls fs la hn _ (by omega)
 have l2:qd (qbp (atR fs) (atR gs) i k) 200:=by
  unfold qbp
  split
  ·exact ls gs lb hm _ (by omega)
  ·exact ls fs la hn _ (by omega)
 unfold zlj
 split
 ·exact (qd.int (z:=0) (by decide)).mono (by omega)
 ·exact (l1.sub l2).mono (by omega))
theorem zmu (va vb:Value) (qa qb:List (Int × Int)) (w:World) (hva:zqg w va qa) (hfa:∀ q ∈ qa,Fits q) (hvb:zqg w vb qb) (hfb:∀ q ∈ qb,Fits q) (htab:Lib.TabIs prog w "internal/strconv.uint64pow10" .u64 Lib.pow10Tab) (herr:w.cell? ⟨0,0,none⟩=some (.iface 219 (.agg #[.pointer (some ⟨7,29,none⟩)]))) :
   Calls prog 6 #[va,vb] w fun e w'=>e=.returned (.bool true)∧But [] w w':=by(
 obtain⟨aa,ca,rfl,-,-⟩:=id hva
 obtain⟨ab,cb,rfl,-,-⟩:=id hvb
 by_cases hg:(60<qa.length∧qa.length≤201)∨(60<qb.length∧qb.length≤201)∨230<qa.length∨230<qb.length
 ·exact zus aa ab qa.length ca qb.length cb w hg
 have hga:qa.length≤60∨201<qa.length∧qa.length≤230:=by omega
 have hgb:qb.length≤60∨201<qb.length∧qb.length≤230:=by omega
 clear hg
 obtain⟨fs,hfs⟩:∃ fs,fs=qa.map qf:=⟨_,rfl⟩
 obtain⟨gs,hgs⟩:∃ gs,gs=qb.map qf:=⟨_,rfl⟩
 have hla:fs.length=qa.length:=by rw[hfs];simp
 have hlb:gs.length=qb.length:=by rw[hgs];simp
 have lf:=znu hfa
 have lg:=znu hfb
 rw[← hfs] at lf
 rw[← hgs] at lg
 have hn:fs.length≤1000:=by omega
 have hm:gs.length≤1000:=by omega
 have LIA:∀ W,But [] w W→Calls prog 15 #[.slice aa qa.length ca] W fun e w'=>∃ v,e=.returned v∧zn w' v fs∧But [] W w':=fun W hb=>by
  rw[hfs]
  exact (zjb _ qa W (hva.but hb) hfa (by omega)).mono fun e w' ⟨v',us,he,ho,hbt⟩=>⟨v',he,ho.qhd,hbt⟩
 have LIB:∀ W,But [] w W→Calls prog 15 #[.slice ab qb.length cb] W fun e w'=>∃ v,e=.returned v∧zn w' v gs∧But [] W w':=fun W hb=>by
  rw[hgs]
  exact (zjb _ qb W (hvb.but hb) hfb (by omega)).mono fun e w' ⟨v',us,he,ho,hbt⟩=>⟨v',he,ho.qhd,hbt⟩
 have PLA:∀ W,But [] w W→Calls prog 18 #[.slice aa qa.length ca] W fun e w'=>∃ v,e=.returned v∧av w' v fs∧But [] W w':=fun W hb=>by rw[hfs];exact zhb _ qa W (hva.but hb) hfa (by omega)
 have PLB:∀ W,But [] w W→Calls prog 18 #[.slice ab qb.length cb] W fun e w'=>∃ v,e=.returned v∧av w' v gs∧But [] W w':=fun W hb=>by rw[hgs];exact zhb _ qb W (hvb.but hb) hfb (by omega)
 have LCA:∀ W v,zn W v fs→Calls prog 29 #[v] W fun e w'=>e=.returned (.int .i64 (ni fs))∧But [] W w':=fun W v h=>zkz v fs W 1 h hn lf (by omega)
 have LCB:∀ W v,zn W v gs→Calls prog 29 #[v] W fun e w'=>e=.returned (.int .i64 (ni gs))∧But [] W w':=fun W v h=>zkz v gs W 1 h hm lg (by omega)
 by_cases hb0:jq fs gs=0
 ·(
 have hkx:ni fs=0:=by
  unfold jq at hb0
  by_cases h:ni fs=0
  ·exact h
  ·rw[if_pos h] at hb0;exact hb0
 have hky:ni gs=0:=by
  unfold jq at hb0
  rw[if_neg (fun h=>h hkx)] at hb0
  exact hb0
 obtain⟨hx0,hx1,hxp,hxs⟩:=zhv hkx
 obtain⟨hy0,hy1,hyp,hys⟩:=zhv hky
 have hFa:∀ k,0≤atR fs k:=fun k=>by
  rcases Nat.lt_or_ge k fs.length with h | h
  ·exact zfl hxp k h
  ·rw[zfq fs k h];exact Rat.le_refl
 have hFb:∀ k,0≤atR gs k:=fun k=>by
  rcases Nat.lt_or_ge k gs.length with h | h
  ·exact zfl hyp k h
  ·rw[zfq gs k h];exact Rat.le_refl
 obtain⟨n,hN⟩:∃ n,n=max fs.length gs.length:=⟨_,rfl⟩
 obtain⟨bl,f1,F1⟩:=zsw (abR fs gs) n
 obtain⟨b2,f2,F2⟩:=zsw (deR fs gs) n
 rw[hkx] at LCA
 rw[hky] at LCB
 have AL:∀ W va vb,But [] w W→av W va fs→av W vb gs→Calls prog 30 #[va,vb] W fun e w'=>e=.returned (.tuple #[.bool bl,.int .i64 (f1:Int),.nilIface])∧But [] W w':=fun W va vb hb h1 h2=>by
  refine (zgn va vb fs gs n W h1 h2 hn hm lf lg hN).mono ?_
  rintro e w' ⟨hbt,h⟩
  rcases h with ⟨h,-⟩|⟨-,b',f',he,hF⟩
  ·exact absurd hb0 h
  ·obtain⟨rfl,rfl⟩:=F1.same hF
   exact⟨he,hbt⟩
 have RA:∀ W va vb,But [] w W→av W va fs→av W vb gs→Calls prog 31 #[va,vb] W fun e w'=>e=.returned (.tuple #[.bool b2,.int .i64 (f2:Int),.nilIface])∧But [] W w':=fun W va vb hb h1 h2=>by
  refine (zld va vb fs gs n W h1 h2 hn hm lf lg hN).mono ?_
  rintro e w' ⟨hbt,h⟩
  rcases h with ⟨h,-⟩|⟨-,b',f',he,hF⟩
  ·exact absurd hb0 h
  ·obtain⟨rfl,rfl⟩:=F2.same hF
   exact⟨he,hbt⟩
 have TE:∀ W,But [] w W→Calls prog 10 #[.nilIface] W fun e w'=>e=.returned (.int .i64 0)∧But [] W w':=fun W _=>zxn W
 have RAL:∀ W va vb,zn W va fs→zn W vb gs→Calls prog 33 #[va,vb] W fun e w'=>e=.returned (.tuple #[.bool bl,.int .i64 (f1:Int)])∧But [] W w':=fun W va vb h1 h2=>by
  refine (zjw va vb fs.length gs.length n (byR fs) (byR gs) W ?_ ?_ hN (by omega) (fun x X hx hX=>?_) (fun x X hx hX=>?_) (fun x _=>qcv lf hx1 x) (fun x _=>qcv lg hy1 x)).mono ?_
  ·obtain⟨a,c,e,-⟩:=h1.open;exact⟨a,c,e⟩
  ·obtain⟨a,c,e,-⟩:=h2.open;exact⟨a,c,e⟩
  ·exact zft va fs (atR fs) x X (h1.but hX) (fun i hi=>zey fs i hi) hx1 (fun i hi=>(zea lf i hi).mono (by omega)) (by omega)
  ·exact zft vb gs (atR gs) x X (h2.but hX) (fun i hi=>zey gs i hi) hy1 (fun i hi=>(zea lg i hi).mono (by omega)) (by omega)
  ·rintro e w' ⟨b',f',he,hF,hbt⟩
   obtain⟨rfl,rfl⟩:=F1.same (show nk (abR fs gs) n b' f' from hF)
   exact⟨he,hbt⟩
 have RRA:∀ W va vb,zn W va fs→zn W vb gs→Calls prog 34 #[va,vb] W fun e w'=>e=.returned (.tuple #[.bool b2,.int .i64 (f2:Int)])∧But [] W w':=fun W va vb h1 h2=>by
  refine (zjv va vb fs.length gs.length n (dyR fs) (dyR gs) W ?_ ?_ hN (by omega) (fun x X hx hX=>?_) (fun x X hx hX=>?_) (fun x hx=>qcd lf hx1 x (by omega)) (fun x hx=>qcd lg hy1 x (by omega))).mono ?_
  ·obtain⟨a,c,e,-⟩:=h1.open;exact⟨a,c,e⟩
  ·obtain⟨a,c,e,-⟩:=h2.open;exact⟨a,c,e⟩
  ·exact zeo va fs (atR fs) x X (h1.but hX) (fun i hi=>zey fs i hi) hx1 (fun i hi=>(zea lf i hi).mono (by omega)) (by omega)
  ·exact zeo vb gs (atR gs) x X (h2.but hX) (fun i hi=>zey gs i hi) hy1 (fun i hi=>(zea lg i hi).mono (by omega)) (by omega)
  ·rintro e w' ⟨b',f',he,hF,hbt⟩
   obtain⟨rfl,rfl⟩:=F2.same (show nk (deR fs gs) n b' f' from hF)
   exact⟨he,hbt⟩
 by_cases hl:40<fs.length∨40<gs.length
 ·by_cases hl1:40<qa.length
  ·exact zrw aa ab qa.length ca qb.length cb fs gs w hga hgb bl b2 f1 f2 .nilIface .nilIface (.iface 33 (.int .i64 4)) hl1 LIA LIB LCA LCB PLA PLB AL RA TE TE (fun W va vb hb h1 h2=>zlz va vb fs gs W h1 h2 hn hm lf lg hb0 hl) (fun W hb=>zdo 4 W (hb.ag herr (by simp))) RAL RRA
  ·exact zrv aa ab qa.length ca qb.length cb fs gs w hga hgb bl b2 f1 f2 .nilIface .nilIface (.iface 33 (.int .i64 4)) hl1 (by omega) LIA LIB LCA LCB PLA PLB AL RA TE TE (fun W va vb hb h1 h2=>zlz va vb fs gs W h1 h2 hn hm lf lg hb0 hl) (fun W hb=>zdo 4 W (hb.ag herr (by simp))) RAL RRA
 ·(
 have hN40:fs.length≤40∧gs.length≤40:=by omega
 have hab:∀ x,x<n→(abR fs gs x=true↔0<upS (qw fs gs) n (n-(x+1))):=fun x hx=>by
  rw[zeu fs gs n x (n-(x+1)) hN (by omega)]
  unfold abR
  rw[decide_eq_true_iff]
  constructor
  ·intro h;grind
  ·intro h;grind
 rcases F1 with ⟨rfl,rfl,hall⟩|⟨rfl,q1,q2,q3⟩
 ·(
 have hnone:∀ j,j<n→¬ 0<upS (qw fs gs) n j:=fun j hj h=>by
  have h1:=hall (n-(j+1)) (by omega)
  have h2:=(hab (n-(j+1)) (by omega)).2 (by rw[show n-(n-(j+1)+1)=j by omega];exact h)
  rw[h1] at h2
  exact absurd h2 (by decide)
 obtain⟨M,hM⟩:∃ M:Nat→List Rat,M=fun i=>(List.range gs.length).map (zlj (atR fs) (atR gs) i):=⟨_,rfl⟩
 have hMl:∀ i,i<fs.length→(M i).length≤1000:=fun i hi=>by rw[hM];simp;omega
 have hMf:∀ i,i<fs.length→∀ f ∈ M i,Len f 1000000:=fun i hi f hf=>by
  rw[hM] at hf
  obtain⟨k,hk,rfl⟩:=List.mem_map.1 hf
  rw[List.mem_range] at hk
  exact (zyy (qbc lf lg hN40.1 hN40.2 i k hi hk)).mono (by omega)
 refine zut aa ab qa.length ca qb.length cb fs gs w hga hgb b2 _ f2 .nilIface .nilIface fs.length M (fun i=>(M i).map zbj) (by omega) (by omega) LIA LIB LCA LCB PLA PLB AL RA TE TE (fun W va vb hb h1 h2=>?_) RAL RRA (fun W va vb h1 h2=>?_) (fun W v hb h=>?_) (fun W v h=>?_) (fun W v1 v2 h1 h2=>zqw v1 v2 fs.length _ W h1 h2 hn (fun i hi=>by rw[List.length_map];exact hMl i hi))
 ·(
 obtain⟨ba,oa,c1,rfl,-⟩:=zcl h1 hx0
 obtain⟨bb,ob,c2,rfl,-⟩:=zcl h2 hy0
 refine (zob ba oa c1 fs.length bb ob c2 gs.length fs gs n W h1 h2 rfl rfl hN40.1 hN40.2 lf lg hN hb0).mono ?_
 rintro e w' ⟨hbt,h⟩
 rcases h with ⟨h,-⟩|⟨-,go,ga,he,hmt⟩
 ·exact absurd hnone h
 ·(
 refine⟨_,he,?_,hbt⟩
 rw[hM]
 refine qbn hmt _ (fun i k hi hk=>?_)
 unfold zmx
 have h3:i*gs.length+k<fs.length*gs.length:=by
  have h1:(i+1)*gs.length≤fs.length*gs.length:=Nat.mul_le_mul_right _ hi
  rw[Nat.succ_mul] at h1
  omega
 rw[if_pos h3,qcx _ _ hFa hFb]
 have e1:(i*gs.length+k)/gs.length=i:=by
  rw[Nat.mul_comm,Nat.mul_add_div (by omega),Nat.div_eq_of_lt hk];rfl
 have e2:(i*gs.length+k)%gs.length=k:=by
  rw[Nat.mul_comm,Nat.mul_add_mod];exact Nat.mod_eq_of_lt hk
 rw[e1,e2]))
 ·refine (zmp va vb fs gs W h1 h2 hN40.1 hN40.2 hx0 hy0 lf lg).mono ?_
  rintro e w' ⟨v',us,he,ho,hbt⟩
  exact⟨v',he,by rw[hM];exact ho.rows,hbt⟩
 ·refine (zha v fs.length M W h hn hMl hMf (TabIs.but htab hb)).mono ?_
  rintro e w' ⟨v',us,he,ho,hbt⟩
  exact⟨v',he,ho.rows,hbt⟩
 ·refine (zju v fs.length M W h hn hMl hMf).mono ?_
  rintro e w' ⟨v',us,he,ho,hbt⟩
  exact⟨v',he,ho.rows,hbt⟩)
 ·(
 refine zur aa ab qa.length ca qb.length cb fs gs w hga hgb b2 f1 f2 .nilIface .nilIface (.iface 33 (.int .i64 8)) (by omega) (by omega) LIA LIB LCA LCB PLA PLB AL RA TE TE (fun W va vb hb h1 h2=>?_) (fun W hb=>zdo 8 W (hb.ag herr (by simp))) RAL RRA
 obtain⟨ba,oa,c1,rfl,-⟩:=zcl h1 hx0
 obtain⟨bb,ob,c2,rfl,-⟩:=zcl h2 hy0
 refine (zob ba oa c1 fs.length bb ob c2 gs.length fs gs n W h1 h2 rfl rfl hN40.1 hN40.2 lf lg hN hb0).mono ?_
 rintro e w' ⟨hbt,h⟩
 rcases h with ⟨-,he⟩|⟨h,-⟩
 ·exact⟨he,hbt⟩
 ·exact absurd ((hab f1 q1).1 q2) (h _ (by omega)))))
 ·(
 have ALb:∀ W va vb,But [] w W→av W va fs→av W vb gs→Calls prog 30 #[va,vb] W fun e w'=>e=.returned (.tuple #[.bool false,.int .i64 0,.iface 33 (.int .i64 (jq fs gs))])∧But [] W w':=fun W va vb hb h1 h2=>by
  refine (zgn va vb fs gs _ W h1 h2 hn hm lf lg rfl).mono ?_
  rintro e w' ⟨hbt,h⟩
  rcases h with ⟨-,he⟩|⟨h,-⟩
  ·exact⟨he,hbt⟩
  ·exact absurd h hb0
 have RAb:∀ W va vb,But [] w W→av W va fs→av W vb gs→Calls prog 31 #[va,vb] W fun e w'=>e=.returned (.tuple #[.bool false,.int .i64 0,.iface 33 (.int .i64 (jq fs gs))])∧But [] W w':=fun W va vb hb h1 h2=>by
  refine (zld va vb fs gs _ W h1 h2 hn hm lf lg rfl).mono ?_
  rintro e w' ⟨hbt,h⟩
  rcases h with ⟨-,he⟩|⟨h,-⟩
  ·exact⟨he,hbt⟩
  ·exact absurd h hb0
 have TE:∀ W,But [] w W→Calls prog 10 #[.iface 33 (.int .i64 (jq fs gs))] W fun e w'=>e=.returned (.int .i64 (jq fs gs))∧But [] W w':=fun W hb=>zdo _ W (hb.ag herr (by simp))
 have BE:∀ W va vb,But [] w W→av W va fs→av W vb gs→Calls prog 32 #[va,vb] W fun e w'=>e=.returned (.tuple #[.slice none 0 0,.iface 33 (.int .i64 (jq fs gs))])∧But [] W w':=fun W va vb hb h1 h2=>zvp va vb fs gs _ W h1 h2 hn hm lf lg rfl hb0
 by_cases hkx:ni fs=0
 ·have e:ni gs=jq fs gs:=by unfold jq;rw[if_neg (fun h=>h hkx)]
  rw[hkx] at LCA
  exact zuu aa ab qa.length ca qb.length cb fs gs w hga hgb 0 (ni gs) (jq fs gs) _ _ _ (by simpa using hb0) (by simp) rfl e LIA LIB LCA LCB PLA PLB ALb RAb TE TE BE TE
 ·have e:ni fs=jq fs gs:=by unfold jq;rw[if_pos hkx]
  exact zuv aa ab qa.length ca qb.length cb fs gs w hga hgb (ni fs) (ni gs) (jq fs gs) _ _ _ (by simpa using hb0) (by simp) (by simpa using hkx) e LIA LIB LCA LCB PLA PLB ALb RAb TE TE BE TE))
end Go.Proofs.YtagmkkiagjmimaaGreatDoor
