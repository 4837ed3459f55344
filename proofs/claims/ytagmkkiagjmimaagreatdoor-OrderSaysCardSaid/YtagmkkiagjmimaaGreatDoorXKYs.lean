/- Which amounts are gone beyond, as the re -/
import Derived.Test.YtagmkkiagjmimaaGreatDoorXRLr
import Derived.Test.YtagmkkiagjmimaaGreatDoorXRLv
import Derived.Test.YtagmkkiagjmimaaGreatDoorXRUr
namespace Go.Proofs.YtagmkkiagjmimaaGreatDoor
open Go.Proofs.Tryz
open Go.RowKit
set_option maxHeartbeats 16000000
set_option maxRecDepth 100000
set_option linter.unusedVariables false
theorem zft (v:Value) (fs:List Rat) (F:Nat→Rat) (a:Nat) (w:World) (hr:zn w v fs) (hF:∀ i,i<fs.length→fs[i]? = some (F i)) (hn:fs.length≤201) (lf:∀ i,i<fs.length→qd (F i) 200) (ha:a≤1000) :
   Calls prog 104 #[v,.int .i64 (a:Int)] w fun e w'=>∃ zb,e=.returned (.pointer (some ⟨zb,0,none⟩))∧zi w' zb (sgR (fun i=>if a<i then F i else 0) fs.length)∧But [] w w':=by(
 obtain⟨G,hG⟩:∃ G:Nat→Rat,G=fun i=>if a<i then F i else 0:=⟨_,rfl⟩
 have lm:∀ i,i<fs.length→qd (G i) 203:=fun i hi=>by
  rw[hG]
  show qd (if a<i then F i else 0) 203
  split
  ·exact (lf i hi).mono (by omega)
  ·exact (qd.int (z:=0) (by decide)).mono (by omega)
 have ls:∀ k,k≤fs.length→qd (sgR G k) 100000:=fun k hk=>(zcj (F:=G) (c:=203) k (fun i hi=>lm i (by omega))).mono (by
  have:k*(203+1)≤201*204:=Nat.mul_le_mul (by omega) (Nat.le_refl _)
  omega)
 have I0:=af (zfh 0 w (by omega) (by omega))
 have IN:=af (fun (z:Int) (W:World) (h:-1000000≤z∧z<1000000)=>zfh z W (by omega) (by omega))
 have AD:=af (fun (k:Nat) (W:World) (x y:Nat) (h:k<fs.length) (hx:zi W x (sgR G k)) (hy:zi W y (G k))=>zpa x y _ _ W hx hy ((ls k (by omega)).mono (by omega)) ((lm k h).mono (by omega)))
 have SK:=af (fun (k:Nat) (h:¬ a<k)=>show sgR G k=sgR G (k+1) by
  have e0:G k=0:=by rw[hG];exact if_neg h
  show _=sgR G k+G k
  rw[e0]
  grind)
 have GK:=af (fun (k:Nat) (h:a<k)=>show F k=G k by
  rw[hG]
  exact (if_pos h).symm)
 rw[← hG]
 obtain⟨a0,cap,rfl,hcap,hV⟩:=zdr hr hF
 have HV:=af hV
 clear hV hr hF lf lm ls
 obtain⟨n,hnn⟩:∃ n,n=fs.length:=⟨_,rfl⟩
 rw[← hnn] at hn hcap HV AD
 rw[← hnn]
 clear hnn hG
 go_enter func104,ntmps104
 go_wp2_with fail
 refine (ae I0).mono ?_
 rintro e w1 ⟨g0,rfl,h0,hb0⟩
 have S1:Hid (zi w1 g0 (sgR G 0)∧But [] w w1):=⟨h0,hb0⟩
 clear h0 hb0 I0
 go_wp2
 go_loopw [5,11] (fun p i wr=>∃ (k pb:Nat),k≤n∧i=.int .i64 (k:Int)∧p=.pointer (some ⟨pb,0,none⟩)∧Hid (zi wr pb (sgR G k)∧But [] w wr)) (fun _ i _=>n-(intOf i).toNat)
 case atStart=>exact⟨0,g0,Nat.zero_le _,rfl,rfl,ae S1⟩
 case round =>(
 obtain⟨k,pb,hk,rfl,rfl,HI⟩:=hrel
 rename World=>wr
 clear S1
 by_cases hlt:k<n
 ·(
 obtain⟨b,off,g,rfl,c0,hT⟩:=ae HV wr (ae HI).2 k hlt
 have HB:=af (ae HI).2
 have T0:=af hT
 have P0:=af (ae HI).1
 clear hT HI
 by_cases hak:a<k
 ·(
 have hak2:(a:Int)<(k:Int):=by omega
 go_wp2_with fail
 refine (ae AD k _ _ _ hlt (ae P0) (by rw[← ae GK k hak];exact ae T0)).mono ?_
 rintro e w4 ⟨g4,rfl,h4,hb⟩
 replace HB:=af ((ae HB).trans' hb)
 have N4:=af (h4)
 clear h4 hb T0 P0
 have N5:Hid (zi w4 g4 (sgR G (k+1))∧But [] w w4):=⟨ae N4,ae HB⟩
 clear N4 HB
 go_wp2
 exact⟨⟨k+1,g4,by omega,by go_num,rfl,ae N5⟩,by simp[intOf];omega⟩)
 ·(
 have hak2:¬ (a:Int)<(k:Int):=by omega
 have N5:Hid (zi wr pb (sgR G (k+1))∧But [] w wr):=⟨by rw[← ae SK k hak];exact ae P0,ae HB⟩
 clear P0 HB T0
 go_wp2
 exact⟨⟨k+1,pb,by omega,by go_num,rfl,ae N5⟩,by simp[intOf];omega⟩))
 ·obtain rfl:k=n:=by omega
  go_wp2
  go_ret
  exact⟨pb,rfl,(ae HI).1,(ae HI).2⟩))
theorem zjw (va vb:Value) (na nb n:Nat) (A B:Nat→Rat) (w:World) (ha:∃ q c,va=.slice q na c) (hb:∃ q c,vb=.slice q nb c) (hn:n=max na nb) (hn2:n≤1000)
   (SA:∀ x W,x<n→But [] w W→Calls prog 104 #[va,.int .i64 (x:Int)] W fun e w'=>∃ zb,e=.returned (.pointer (some ⟨zb,0,none⟩))∧zi w' zb (A x)∧But [] W w') (SB:∀ x W,x<n→But [] w W→Calls prog 104 #[vb,.int .i64 (x:Int)] W fun e w'=>∃ zb,e=.returned (.pointer (some ⟨zb,0,none⟩))∧zi w' zb (B x)∧But [] W w')
   (lA:∀ x,x<n→qd (A x) 1000000) (lB:∀ x,x<n→qd (B x) 1000000) :
   Calls prog 33 #[va,vb] w fun e w'=>∃ (bl:Bool) (f:Nat),e=.returned (.tuple #[.bool bl,.int .i64 (f:Int)])∧nk (fun x=>decide (B x<A x)) n bl f∧But [] w w':=by(
 obtain⟨qa,ca,rfl⟩:=ha
 obtain⟨qb,cb,rfl⟩:=hb
 have SAH:=af SA
 have SBH:=af SB
 have CM:=af (fun x W p q (hx:x<n) (h1:zi W p (A x)) (h2:zi W q (B x))=>zoy p q _ _ W h1 h2 ((lA x hx).mono (by omega)) ((lB x hx).mono (by omega)))
 have h1n:na≤n:=by omega
 have h2n:nb≤n:=by omega
 have h3n:∀ x,x<n→¬ x<na→x<nb:=fun x h1 h2=>by omega
 have H3:=af h3n
 clear SA SB lA lB hn h3n
 go_enter func33,ntmps33
 go_wp2
 go_loopw [6] (fun i wr=>∃ (k:Nat),k≤n∧i=.int .i64 (k:Int)∧Hid ((∀ x,x<k→decide (B x<A x)=false)∧But [] w wr)) (fun i _=>n-(intOf i).toNat)
 case atStart=>exact⟨0,Nat.zero_le _,rfl,fun x h=>absurd h (by omega),But.refl _ _⟩
 case round =>(
 obtain⟨k,hk,rfl,HI⟩:=hrel
 rename World=>wr
 have HB:=af (ae HI).2
 have HL:=af (ae HI).1
 clear HI
 by_cases hlt:k<n
 ·(
 have hor:k<na∨(¬ k<na∧k<nb):=by
  rcases Nat.lt_or_ge k na with h | h
  ·exact .inl h
  ·exact .inr ⟨by omega,ae H3 k hlt (by omega)⟩
 rcases hor with h1|⟨h1,h2⟩
 all_goals(
 go_wp2_with fail
 refine (ae SAH k _ hlt (ae HB)).mono ?_
 rintro e w2 ⟨p2,rfl,h2,hb⟩
 replace HB:=af ((ae HB).trans' hb)
 have P2:=af (h2)
 clear h2 hb
 go_wp2_with fail
 refine (ae SBH k _ hlt (ae HB)).mono ?_
 rintro e w3 ⟨p3,rfl,h3,hb⟩
 replace HB:=af ((ae HB).trans' hb)
 replace P2:=af ((ae P2).but hb)
 have P3:=af (h3)
 clear h3 hb
 go_wp2_with fail
 refine (ae CM k _ _ _ hlt (ae P2) (ae P3)).mono ?_
 rintro e w4 ⟨c,rfl,-,hc,-,hb⟩
 replace HB:=af ((ae HB).trans' hb)
 have HC:=af (hc)
 clear hc hb P2 P3
 by_cases hlow:B k<A k
 ·(
 have hc:0<c:=(ae HC).2 hlow
 have hc2:c > 0:=hc
 clear HC
 go_wp2
 exact bodyPost_ret (v:=.tuple #[.bool false,.int .i64 (k:Int)]) (by simp[results,results33,go_sem]) rfl ⟨false,k,rfl,.inr ⟨rfl,hlt,decide_eq_true hlow,ae HL⟩,ae HB⟩)
 ·(
 have hc:¬ 0<c:=fun h=>hlow ((ae HC).1 h)
 have hc2:¬ c > 0:=hc
 have NX:Hid ((∀ x,x<k+1→decide (B x<A x)=false)∧But [] w w4):=⟨fun x hx=>by
  by_cases e:x=k
  ·rw[e];exact decide_eq_false hlow
  ·exact ae HL x (by omega),ae HB⟩
 clear HC HL HB
 go_wp2
 exact⟨⟨k+1,by omega,by go_num,ae NX⟩,by simp[intOf];omega⟩)))
 ·(
 obtain rfl:k=n:=by omega
 have h1:¬ k<na:=by omega
 have h2:¬ k<nb:=by omega
 go_wp2
 exact bodyPost_ret (v:=.tuple #[.bool true,.int .i64 0]) (by simp[results,results33,go_sem]) rfl ⟨true,0,rfl,.inl ⟨rfl,rfl,ae HL⟩,ae HB⟩)))
theorem zjv (va vb:Value) (na nb n:Nat) (A B:Nat→Rat) (w:World) (ha:∃ q c,va=.slice q na c) (hb:∃ q c,vb=.slice q nb c) (hn:n=max na nb) (hn2:n≤1000)
   (SA:∀ x W,x<n→But [] w W→Calls prog 50 #[va,.int .i64 (x:Int)] W fun e w'=>∃ zb,e=.returned (.pointer (some ⟨zb,0,none⟩))∧zi w' zb (A x)∧But [] W w') (SB:∀ x W,x<n→But [] w W→Calls prog 50 #[vb,.int .i64 (x:Int)] W fun e w'=>∃ zb,e=.returned (.pointer (some ⟨zb,0,none⟩))∧zi w' zb (B x)∧But [] W w')
   (lA:∀ x,x<n→qd (A x) 1000000) (lB:∀ x,x<n→qd (B x) 1000000) :
   Calls prog 34 #[va,vb] w fun e w'=>∃ (bl:Bool) (f:Nat),e=.returned (.tuple #[.bool bl,.int .i64 (f:Int)])∧nk (fun x=>decide (B x<A x)) n bl f∧But [] w w':=by(
 obtain⟨qa,ca,rfl⟩:=ha
 obtain⟨qb,cb,rfl⟩:=hb
 have SAH:=af SA
 have SBH:=af SB
 have CM:=af (fun x W p q (hx:x<n) (h1:zi W p (A x)) (h2:zi W q (B x))=>zoy p q _ _ W h1 h2 ((lA x hx).mono (by omega)) ((lB x hx).mono (by omega)))
 have h1n:na≤n:=by omega
 have h2n:nb≤n:=by omega
 have h3n:∀ x,x<n→¬ x<na→x<nb:=fun x h1 h2=>by omega
 have H3:=af h3n
 clear SA SB lA lB hn h3n
 go_enter func34,ntmps34
 go_wp2
 go_loopw [6] (fun i wr=>∃ (k:Nat),k≤n∧i=.int .i64 (k:Int)∧Hid ((∀ x,x<k→decide (B x<A x)=false)∧But [] w wr)) (fun i _=>n-(intOf i).toNat)
 case atStart=>exact⟨0,Nat.zero_le _,rfl,fun x h=>absurd h (by omega),But.refl _ _⟩
 case round =>(
 obtain⟨k,hk,rfl,HI⟩:=hrel
 rename World=>wr
 have HB:=af (ae HI).2
 have HL:=af (ae HI).1
 clear HI
 by_cases hlt:k<n
 ·(
 have hor:k<na∨(¬ k<na∧k<nb):=by
  rcases Nat.lt_or_ge k na with h | h
  ·exact .inl h
  ·exact .inr ⟨by omega,ae H3 k hlt (by omega)⟩
 rcases hor with h1|⟨h1,h2⟩
 all_goals(
 go_wp2_with fail
 refine (ae SAH k _ hlt (ae HB)).mono ?_
 rintro e w2 ⟨p2,rfl,h2,hb⟩
 replace HB:=af ((ae HB).trans' hb)
 have P2:=af (h2)
 clear h2 hb
 go_wp2_with fail
 refine (ae SBH k _ hlt (ae HB)).mono ?_
 rintro e w3 ⟨p3,rfl,h3,hb⟩
 replace HB:=af ((ae HB).trans' hb)
 replace P2:=af ((ae P2).but hb)
 have P3:=af (h3)
 clear h3 hb
 go_wp2_with fail
 refine (ae CM k _ _ _ hlt (ae P2) (ae P3)).mono ?_
 rintro e w4 ⟨c,rfl,-,hc,-,hb⟩
 replace HB:=af ((ae HB).trans' hb)
 have HC:=af (hc)
 clear hc hb P2 P3
 by_cases hlow:B k<A k
 ·(
 have hc:0<c:=(ae HC).2 hlow
 have hc2:c > 0:=hc
 clear HC
 go_wp2
 exact bodyPost_ret (v:=.tuple #[.bool false,.int .i64 (k:Int)]) (by simp[results,results34,go_sem]) rfl ⟨false,k,rfl,.inr ⟨rfl,hlt,decide_eq_true hlow,ae HL⟩,ae HB⟩)
 ·(
 have hc:¬ 0<c:=fun h=>hlow ((ae HC).1 h)
 have hc2:¬ c > 0:=hc
 have NX:Hid ((∀ x,x<k+1→decide (B x<A x)=false)∧But [] w w4):=⟨fun x hx=>by
  by_cases e:x=k
  ·rw[e];exact decide_eq_false hlow
  ·exact ae HL x (by omega),ae HB⟩
 clear HC HL HB
 go_wp2
 exact⟨⟨k+1,by omega,by go_num,ae NX⟩,by simp[intOf];omega⟩)))
 ·(
 obtain rfl:k=n:=by omega
 have h1:¬ k<na:=by omega
 have h2:¬ k<nb:=by omega
 go_wp2
 exact bodyPost_ret (v:=.tuple #[.bool true,.int .i64 0]) (by simp[results,results34,go_sem]) rfl ⟨true,0,rfl,.inl ⟨rfl,rfl,ae HL⟩,ae HB⟩)))
theorem zkx (b o cap l t:Nat) (z:Int) (hz:z=(t:Int)) (ht:t≤cap) (h0:0<cap):∀ W,(Instr.slice 42 (.slice (some ⟨b,o,none⟩) l cap) none (some (.int .i64 z)) none).run prog W=.ok (.slice (some ⟨b,o,none⟩) t cap) W:=fun W=>by
 have hu:=underlying42
 subst hz
 have h1:(0:Int)≤(t:Int):=by omega
 have h2:(t:Int)≤(cap:Int):=by omega
 have h3:(0:Int)<(cap:Int):=by omega
 go_simp
theorem zmp (va vb:Value) (fs gs:List Rat) (w:World) (ha:zn w va fs) (hb:zn w vb gs) (hn:fs.length≤40) (hm:gs.length≤40) (hn1:1≤fs.length) (hm1:1≤gs.length) (la:∀ f ∈ fs,Len f 1) (lb:∀ f ∈ gs,Len f 1) :
   Calls prog 38 #[va,vb] w fun e w'=>∃ v' us,e=.returned v'∧zcp w' w.heap.size v' fs.length (fun i=>(List.range gs.length).map (zlj (atR fs) (atR gs) i)) us∧But [] w w':=by(
 have lu:∀ (xs:List Rat),(∀ f ∈ xs,Len f 1)→∀ i,i<xs.length→qd (atR xs i) 2:=fun xs h i hi=>by
  have e:atR xs i=xs[i]:=by unfold atR;rw[List.getElem?_eq_getElem hi];rfl
  rw[e]
  exact zhk (h _ (List.getElem_mem hi))
 have ls:∀ (xs:List Rat),(∀ f ∈ xs,Len f 1)→xs.length≤40→∀ k,k≤xs.length→qd (sgR (atR xs) k) 200:=fun xs h hx k hk=>(zcj (F:=atR xs) (c:=2) k (fun i hi=>lu xs h i (by omega))).mono (by omega)
 have SM:∀ (v:Value) (xs:List Rat),zn w v xs→(∀ f ∈ xs,Len f 1)→xs.length≤40→∀ q c,v=.slice q xs.length c→Hid (∀ k W,But [] w W→k≤xs.length→Calls prog 108 #[.slice q k c] W fun e w'=>∃ zb,e=.returned (.pointer (some ⟨zb,0,none⟩))∧l8 w' zb (sgR (atR xs) k)∧But [] W w'):=fun v xs hr hl hx q c e k W hW hk=>by
  subst e
  have hlen:(xs.take k).length=k:=by rw[List.length_take];omega
  have h:=zum _ (xs.take k) (atR xs) W ((hr.but hW).take k hk) (fun i hi=>by
   rw[hlen] at hi
   rw[List.getElem?_take,if_pos hi]
   unfold atR
   rw[List.getElem?_eq_getElem (by omega)];rfl) (by omega) (fun i hi=>(lu xs hl i (by omega)).mono (by omega)) (fun j hj=>(ls xs hl hx j (by omega)).mono (by omega))
  rw[hlen] at h
  exact h
 have S1:∀ (v:Value) (xs:List Rat),zn w v xs→(∀ f ∈ xs,Len f 1)→xs.length≤40→∀ q c,v=.slice q xs.length c→Hid (∀ k W,But [] w W→k+1≤xs.length→Calls prog 108 #[.slice q (k+1) c] W fun e w'=>∃ zb,e=.returned (.pointer (some ⟨zb,0,none⟩))∧zi w' zb (sgR (atR xs) (k+1))∧But [] W w'):=fun v xs hr hl hx q c e k W hW hk=>by
  subst e
  have hlen:(xs.take (k+1)).length=k+1:=by rw[List.length_take];omega
  have h:=zja _ (xs.take (k+1)) (atR xs) W ((hr.but hW).take (k+1) hk) (fun i hi=>by
   rw[hlen] at hi
   rw[List.getElem?_take,if_pos hi]
   unfold atR
   rw[List.getElem?_eq_getElem (by omega)];rfl) (by omega) (by omega) (fun i hi=>(lu xs hl i (by omega)).mono (by omega)) (fun j hj=>(ls xs hl hx j (by omega)).mono (by omega))
  rw[hlen] at h
  exact h
 obtain⟨qa,ca,ea,hca⟩:=ha.open
 obtain⟨qb,cb,eb,hcb⟩:=hb.open
 have SA:=SM va fs ha la hn qa ca ea
 have SB:=SM vb gs hb lb hm qb cb eb
 have TA:=S1 va fs ha la hn qa ca ea
 have TB:=S1 vb gs hb lb hm qb cb eb
 obtain⟨ba,oa,ea0⟩:∃ b off,qa=some ⟨b,off,none⟩:=by
  obtain⟨a',c',e',h⟩:=ha.open
  rw[e'] at ha ea
  simp only[Value.slice.injEq] at ea
  obtain⟨rfl,-,-⟩:=ea
  obtain⟨-,b,off,g,f,h3,-⟩:=ha.at 0 (by omega)
  exact⟨b,off,h3⟩
 obtain⟨bb,ob,eb0⟩:∃ b off,qb=some ⟨b,off,none⟩:=by
  obtain⟨a',c',e',h⟩:=hb.open
  rw[e'] at hb eb
  simp only[Value.slice.injEq] at eb
  obtain⟨rfl,-,-⟩:=eb
  obtain⟨-,b,off,g,f,h3,-⟩:=hb.at 0 (by omega)
  exact⟨b,off,h3⟩
 clear SM S1 ha hb
 subst ea eb ea0 eb0
 obtain⟨A,hA⟩:∃ A,A=sgR (atR fs):=⟨_,rfl⟩
 obtain⟨B,hB⟩:∃ B,B=sgR (atR gs):=⟨_,rfl⟩
 obtain⟨n,hnn⟩:∃ n,n=fs.length:=⟨_,rfl⟩
 obtain⟨m,hmm⟩:∃ m,m=gs.length:=⟨_,rfl⟩
 have lA:Hid (∀ k,k≤n→qd (A k) 200):=fun k hk=>by rw[hA];exact ls fs la hn k (by omega)
 have lB:Hid (∀ k,k≤m→qd (B k) 200):=fun k hk=>by rw[hB];exact ls gs lb hm k (by omega)
 rw[← hA] at SA TA
 rw[← hB] at SB TB
 rw[← hnn] at hn hn1 hca SA TA
 rw[← hmm] at hm hm1 hcb SB TB
 rw[← hnn,← hmm]
 obtain⟨V,hV⟩:∃ V,V=zlj (atR fs) (atR gs):=⟨_,rfl⟩
 have hov:Hid (∀ i k,V i k=(if (if B (k+1)<A (i+1) then B (k+1) else A (i+1))-(if A i<B k then B k else A i)<0 then 0 else (if B (k+1)<A (i+1) then B (k+1) else A (i+1))-(if A i<B k then B k else A i))):=fun i k=>by
  rw[hV,hA,hB];rfl
 rw[← hV]
 clear hA hB hV hnn hmm ls lu la lb
 have CM:=af (fun W (x y:Nat) (f g:Rat) (h1:l8 W x f) (h2:l8 W y g) (l1:qd f 200) (l2:qd g 200)=>qee x y f g W h1 h2 (l1.mono (by omega)) (l2.mono (by omega)))
 have SU:=af (fun W (x y:Nat) (f g:Rat) (h1:zi W x f) (h2:l8 W y g) (l1:qd f 200) (l2:qd g 200)=>qea x y f g W h1 h2 (l1.mono (by omega)) (l2.mono (by omega)))
 have SG:=af (fun W (x:Nat) (d:Rat) (h:zi W x d) (ld:qd d 500)=>(zrf x d W h _ rfl (ld.mono (by omega))))
 have I0:=af (fun W=>zfh 0 W (by omega) (by omega))
 go_enter func38,ntmps38
 go_wp2
 go_loopw [5,16] (fun o i wr=>∃ (k:Nat) (us:List Value),k≤n∧i=.int .i64 (k:Int)∧Hid (zcp wr w.heap.size o k (fun i=>(List.range m).map (V i)) us∧But [] w wr)) (fun _ i _=>n-(intOf i).toNat)
 case atStart=>exact⟨0,[],Nat.zero_le _,rfl,zcp.empty _ _ _,But.refl _ _⟩
 case round =>(
 obtain⟨i,us,hi,rfl,HI⟩:=hrel
 rename World=>wi
 by_cases hlt:i<n
 ·(
 have hic:i≤ca:=by omega
 have hic1:i+1≤ca:=by omega
 go_wp2
 go_loopw [7,21] (fun r k wr=>∃ (j:Nat) (vs:List Value),j≤m∧k=.int .i64 (j:Int)∧Hid (zar wr wi.heap.size r ((List.range j).map (V i)) vs∧But [] wi wr)) (fun _ k _=>m-(intOf k).toNat)
 case atStart=>exact⟨0,[],Nat.zero_le _,rfl,zar.empty _ _,But.refl _ _⟩
 case round =>(
 obtain⟨j,vs,hj,rfl,HJ⟩:=hrel
 rename World=>wr
 have HW:=af ((ae HI).2.trans' (ae HJ).2)
 have HO:=af (ae HJ).1
 have HB:=af (ae HJ).2
 clear HJ
 by_cases hlj:j<m
 ·(
 have hjc:j≤cb:=by omega
 have hjc1:j+1≤cb:=by omega
 have hca0:0<ca:=by omega
 have hsa:=zkx ba oa ca n i (i:Int) rfl hic hca0
 have hsb:=zkx ba oa ca n (i+1) ((i:Int)+1) (by omega) hic1 hca0
 have hwr:IntKind.i64.wrap ((i:Int)+1)=(i:Int)+1:=by rw[IntKind.wrap_i64];omega
 have htn:((i:Int)+1).toNat=i+1:=by omega
 go_upto_region 9 with fail
 go_region_with (first
  | (have hchk:=hba;go_at_call 108;refine (ae TA i _ ?_ hlt).mono ?_;exact (ae HW).trans' (by repeat (first | exact hba | exact But.refl _ _ | refine But.trans' ?_ hba | apply But.drew));rintro e w2 ⟨h0,rfl,hh,hbb⟩)
  | (go_at_call 108;refine (ae SA i _ ?_ hi).mono ?_;exact (ae HW).trans' (by repeat (first | exact But.refl _ _ | apply But.drew));rintro e w1 ⟨l0,rfl,hl,hba⟩))
 all_goals(
 have hX:But [] wr w2:=by repeat (first | exact hba | exact But.refl _ _ | refine But.trans' ?_ hbb | refine But.trans' ?_ hba | apply But.drew)
 have hY:But [] w1 w2:=by repeat (first | exact hbb | exact But.refl _ _ | refine But.trans' ?_ hbb | apply But.drew)
 replace HW:=af ((ae HW).trans' hX)
 replace HB:=af ((ae HB).trans' hX)
 replace HO:=af ((ae HO).but hX)
 have HL:=af (hl.but hY)
 have HH:=af hh
 clear hX hY hl hh hba hbb
 go_wp2_with fail
 refine (ae SB j _ (ae HW) hj).mono ?_
 rintro e w3 ⟨x0,rfl,hx,hbb⟩
 replace HW:=af ((ae HW).trans' hbb)
 replace HB:=af ((ae HB).trans' hbb)
 replace HO:=af ((ae HO).but hbb)
 replace HL:=af ((ae HL).but hbb)
 replace HH:=af ((ae HH).but hbb)
 have HX:=af (hx)
 clear hbb hx
 go_wp2_with fail
 refine (ae CM _ x0 l0 (B j) (A i) (ae HX) (ae HL) (ae lB _ hj) (ae lA _ hi)).mono ?_
 rintro e w4 ⟨c1,rfl,hc1,hc2,hbb⟩
 replace HW:=af ((ae HW).trans' hbb)
 replace HB:=af ((ae HB).trans' hbb)
 replace HO:=af ((ae HO).but hbb)
 replace HL:=af ((ae HL).but hbb)
 replace HH:=af ((ae HH).but hbb)
 replace HX:=af ((ae HX).but hbb)
 have HC:=af (hc2)
 clear hbb hc1 hc2
 by_cases k1:A i<B j
 ·(
 have hc:0<c1:=(ae HC).2 k1
 have hcg:c1 > 0:=hc
 clear HC HL
 have HL:=HX
 clear HX
 go_wp2_with fail
 refine (ae TB j _ (ae HW) hlj).mono ?_
 rintro e w5 ⟨y0,rfl,hy,hbb⟩
 replace HW:=af ((ae HW).trans' hbb)
 replace HB:=af ((ae HB).trans' hbb)
 replace HO:=af ((ae HO).but hbb)
 replace HL:=af ((ae HL).but hbb)
 replace HH:=af ((ae HH).but hbb)
 have HY:=af (hy)
 clear hbb hy
 go_wp2_with fail
 refine (ae CM _ y0 h0 (B (j+1)) (A (i+1)) (.inl (ae HY)) (.inl (ae HH)) (ae lB _ hlj) (ae lA _ hlt)).mono ?_
 rintro e w5b ⟨c2,rfl,hc1,hc2,hbb⟩
 replace HW:=af ((ae HW).trans' hbb)
 replace HB:=af ((ae HB).trans' hbb)
 replace HO:=af ((ae HO).but hbb)
 replace HL:=af ((ae HL).but hbb)
 replace HH:=af ((ae HH).but hbb)
 replace HY:=af ((ae HY).but hbb)
 have HC:=af (hc1)
 clear hbb hc1 hc2
 by_cases k2:B (j+1)<A (i+1)
 ·(
 have hc:c2<0:=(ae HC).2 k2
 clear HC HH
 have HH:=HY
 clear HY
 go_wp2_with fail
 refine (ae SU _ y0 x0 (B (j+1)) (B j) (ae HH) (ae HL) (ae lB _ hlj) (ae lB _ hj)).mono ?_
 rintro e w6 ⟨d,rfl,hd,hbb⟩
 replace HW:=af ((ae HW).trans' hbb)
 replace HB:=af ((ae HB).trans' hbb)
 replace HO:=af ((ae HO).but hbb)
 have HD:=af (hd)
 clear hbb hd HL HH
 have LD:qd ((B (j+1))-(B j)) 500:=(qd.sub (ae lB _ hlj) (ae lB _ hj)).mono (by omega)
 obtain⟨D,hD⟩:∃ D,D=(B (j+1))-(B j):=⟨_,rfl⟩
 have HV:=af (ae hov i j)
 simp only[if_pos k1,if_pos k2] at HV
 rw[← hD] at HD LD HV
 clear hD
 have hsn:D.num.sign<0↔D<0:=by
  have h2:D<0↔D.num<0:=by
   rw[Rat.lt_iff]
   simp
  rw[h2]
  rcases Int.lt_trichotomy D.num 0 with h | h | h
  ·rw[Int.sign_eq_neg_one_of_neg h];omega
  ·rw[h];decide
  ·rw[Int.sign_eq_one_of_pos h];omega
 have HS:=af hsn
 clear hsn
 go_wp2_with fail
 refine (ae SG _ d D (ae HD) LD).mono ?_
 rintro e w7 ⟨rfl,hbb⟩
 replace HW:=af ((ae HW).trans' hbb)
 replace HB:=af ((ae HB).trans' hbb)
 replace HO:=af ((ae HO).but hbb)
 replace HD:=af ((ae HD).but hbb)
 clear hbb LD
 generalize D.num.sign=sg at *
 by_cases hneg:D<0
 ·(
 have hs:sg<0:=(ae HS).2 hneg
 have HV2:Hid (V i j=0):=by have:=ae HV;show _=_;rw[this,if_pos hneg]
 clear HS HV HD hneg
 go_wp2_with fail
 refine (ae I0 _).mono ?_
 rintro e w8 ⟨z,rfl,hz,hbb⟩
 replace HW:=af ((ae HW).trans' hbb)
 replace HB:=af ((ae HB).trans' hbb)
 replace HO:=af ((ae HO).but hbb)
 have HDD:Hid (zi w8 z (V i j)):=by show zi _ _ _;rw[ae HV2];exact hz
 clear hz hbb HV2
 obtain⟨X,hX⟩:∃ X,X=w8.alloc (.cells #[.pointer (some ⟨z,0,none⟩)] 37):=⟨_,rfl⟩
 have bX:But [] w8 X:=by rw[hX];exact (But.refl _ _).alloc _
 have cc:X.cell? ⟨w8.heap.size,0,none⟩=some (.pointer (some ⟨z,0,none⟩)):=by rw[hX];simp
 obtain⟨v',w',hr,ho,hBB,-⟩:=di X wi u7 _ vs wi.heap.size ((ae HO).but bX) w8.heap.size _ (V i j) cc ⟨z,rfl,(ae HDD).but bX⟩ (by simp;omega) ((ae HB).trans' bX) (Nat.le_refl _) ((ae HB).trans' bX).size
 have BF:Hid (But [] wi w'):=hBB
 have HO2:=af ho
 rw[hX] at hr
 have HR:=af hr
 clear hr ho hBB bX cc hX HDD
 go_wp2_with (at_builtin;refine zw rfl _ _ 42 42 rfl _ _ v' w' rfl rfl (ae HR) ?_)
 refine⟨⟨j+1,_,by omega,by go_num,by rw[List.range_succ,List.map_append];exact ae HO2,ae BF⟩,by simp[intOf];omega⟩)
 ·(
 have hs:¬ sg<0:=fun h=>hneg ((ae HS).1 h)
 have HDD:Hid (zi w7 d (V i j)):=by show zi _ _ _;rw[ae HV,if_neg hneg];exact ae HD
 clear HS HV HD hneg
 obtain⟨X,hX⟩:∃ X,X=w7.alloc (.cells #[.pointer (some ⟨d,0,none⟩)] 37):=⟨_,rfl⟩
 have bX:But [] w7 X:=by rw[hX];exact (But.refl _ _).alloc _
 have cc:X.cell? ⟨w7.heap.size,0,none⟩=some (.pointer (some ⟨d,0,none⟩)):=by rw[hX];simp
 obtain⟨v',w',hr,ho,hBB,-⟩:=di X wi u7 _ vs wi.heap.size ((ae HO).but bX) w7.heap.size _ (V i j) cc ⟨d,rfl,(ae HDD).but bX⟩ (by simp;omega) ((ae HB).trans' bX) (Nat.le_refl _) ((ae HB).trans' bX).size
 have BF:Hid (But [] wi w'):=hBB
 have HO2:=af ho
 rw[hX] at hr
 have HR:=af hr
 clear hr ho hBB bX cc hX HDD
 go_wp2_with (at_builtin;refine zw rfl _ _ 42 42 rfl _ _ v' w' rfl rfl (ae HR) ?_)
 refine⟨⟨j+1,_,by omega,by go_num,by rw[List.range_succ,List.map_append];exact ae HO2,ae BF⟩,by simp[intOf];omega⟩))
 ·(
 have hc:¬ c2<0:=fun h=>k2 ((ae HC).1 h)
 clear HC HY
 go_wp2_with fail
 refine (ae SU _ h0 x0 (A (i+1)) (B j) (ae HH) (ae HL) (ae lA _ hlt) (ae lB _ hj)).mono ?_
 rintro e w6 ⟨d,rfl,hd,hbb⟩
 replace HW:=af ((ae HW).trans' hbb)
 replace HB:=af ((ae HB).trans' hbb)
 replace HO:=af ((ae HO).but hbb)
 have HD:=af (hd)
 clear hbb hd HL HH
 have LD:qd ((A (i+1))-(B j)) 500:=(qd.sub (ae lA _ hlt) (ae lB _ hj)).mono (by omega)
 obtain⟨D,hD⟩:∃ D,D=(A (i+1))-(B j):=⟨_,rfl⟩
 have HV:=af (ae hov i j)
 simp only[if_pos k1,if_neg k2] at HV
 rw[← hD] at HD LD HV
 clear hD
 have hsn:D.num.sign<0↔D<0:=by
  have h2:D<0↔D.num<0:=by
   rw[Rat.lt_iff]
   simp
  rw[h2]
  rcases Int.lt_trichotomy D.num 0 with h | h | h
  ·rw[Int.sign_eq_neg_one_of_neg h];omega
  ·rw[h];decide
  ·rw[Int.sign_eq_one_of_pos h];omega
 have HS:=af hsn
 clear hsn
 go_wp2_with fail
 refine (ae SG _ d D (ae HD) LD).mono ?_
 rintro e w7 ⟨rfl,hbb⟩
 replace HW:=af ((ae HW).trans' hbb)
 replace HB:=af ((ae HB).trans' hbb)
 replace HO:=af ((ae HO).but hbb)
 replace HD:=af ((ae HD).but hbb)
 clear hbb LD
 generalize D.num.sign=sg at *
 by_cases hneg:D<0
 ·(
 have hs:sg<0:=(ae HS).2 hneg
 have HV2:Hid (V i j=0):=by have:=ae HV;show _=_;rw[this,if_pos hneg]
 clear HS HV HD hneg
 go_wp2_with fail
 refine (ae I0 _).mono ?_
 rintro e w8 ⟨z,rfl,hz,hbb⟩
 replace HW:=af ((ae HW).trans' hbb)
 replace HB:=af ((ae HB).trans' hbb)
 replace HO:=af ((ae HO).but hbb)
 have HDD:Hid (zi w8 z (V i j)):=by show zi _ _ _;rw[ae HV2];exact hz
 clear hz hbb HV2
 obtain⟨X,hX⟩:∃ X,X=w8.alloc (.cells #[.pointer (some ⟨z,0,none⟩)] 37):=⟨_,rfl⟩
 have bX:But [] w8 X:=by rw[hX];exact (But.refl _ _).alloc _
 have cc:X.cell? ⟨w8.heap.size,0,none⟩=some (.pointer (some ⟨z,0,none⟩)):=by rw[hX];simp
 obtain⟨v',w',hr,ho,hBB,-⟩:=di X wi u7 _ vs wi.heap.size ((ae HO).but bX) w8.heap.size _ (V i j) cc ⟨z,rfl,(ae HDD).but bX⟩ (by simp;omega) ((ae HB).trans' bX) (Nat.le_refl _) ((ae HB).trans' bX).size
 have BF:Hid (But [] wi w'):=hBB
 have HO2:=af ho
 rw[hX] at hr
 have HR:=af hr
 clear hr ho hBB bX cc hX HDD
 go_wp2_with (at_builtin;refine zw rfl _ _ 42 42 rfl _ _ v' w' rfl rfl (ae HR) ?_)
 refine⟨⟨j+1,_,by omega,by go_num,by rw[List.range_succ,List.map_append];exact ae HO2,ae BF⟩,by simp[intOf];omega⟩)
 ·(
 have hs:¬ sg<0:=fun h=>hneg ((ae HS).1 h)
 have HDD:Hid (zi w7 d (V i j)):=by show zi _ _ _;rw[ae HV,if_neg hneg];exact ae HD
 clear HS HV HD hneg
 obtain⟨X,hX⟩:∃ X,X=w7.alloc (.cells #[.pointer (some ⟨d,0,none⟩)] 37):=⟨_,rfl⟩
 have bX:But [] w7 X:=by rw[hX];exact (But.refl _ _).alloc _
 have cc:X.cell? ⟨w7.heap.size,0,none⟩=some (.pointer (some ⟨d,0,none⟩)):=by rw[hX];simp
 obtain⟨v',w',hr,ho,hBB,-⟩:=di X wi u7 _ vs wi.heap.size ((ae HO).but bX) w7.heap.size _ (V i j) cc ⟨d,rfl,(ae HDD).but bX⟩ (by simp;omega) ((ae HB).trans' bX) (Nat.le_refl _) ((ae HB).trans' bX).size
 have BF:Hid (But [] wi w'):=hBB
 have HO2:=af ho
 rw[hX] at hr
 have HR:=af hr
 clear hr ho hBB bX cc hX HDD
 go_wp2_with (at_builtin;refine zw rfl _ _ 42 42 rfl _ _ v' w' rfl rfl (ae HR) ?_)
 refine⟨⟨j+1,_,by omega,by go_num,by rw[List.range_succ,List.map_append];exact ae HO2,ae BF⟩,by simp[intOf];omega⟩)))
 ·(
 have hc:¬ 0<c1:=fun h=>k1 ((ae HC).1 h)
 have hcg:¬ c1 > 0:=hc
 clear HC HX
 go_wp2_with fail
 refine (ae TB j _ (ae HW) hlj).mono ?_
 rintro e w5 ⟨y0,rfl,hy,hbb⟩
 replace HW:=af ((ae HW).trans' hbb)
 replace HB:=af ((ae HB).trans' hbb)
 replace HO:=af ((ae HO).but hbb)
 replace HL:=af ((ae HL).but hbb)
 replace HH:=af ((ae HH).but hbb)
 have HY:=af (hy)
 clear hbb hy
 go_wp2_with fail
 refine (ae CM _ y0 h0 (B (j+1)) (A (i+1)) (.inl (ae HY)) (.inl (ae HH)) (ae lB _ hlj) (ae lA _ hlt)).mono ?_
 rintro e w5b ⟨c2,rfl,hc1,hc2,hbb⟩
 replace HW:=af ((ae HW).trans' hbb)
 replace HB:=af ((ae HB).trans' hbb)
 replace HO:=af ((ae HO).but hbb)
 replace HL:=af ((ae HL).but hbb)
 replace HH:=af ((ae HH).but hbb)
 replace HY:=af ((ae HY).but hbb)
 have HC:=af (hc1)
 clear hbb hc1 hc2
 by_cases k2:B (j+1)<A (i+1)
 ·(
 have hc:c2<0:=(ae HC).2 k2
 clear HC HH
 have HH:=HY
 clear HY
 go_wp2_with fail
 refine (ae SU _ y0 l0 (B (j+1)) (A i) (ae HH) (ae HL) (ae lB _ hlj) (ae lA _ hi)).mono ?_
 rintro e w6 ⟨d,rfl,hd,hbb⟩
 replace HW:=af ((ae HW).trans' hbb)
 replace HB:=af ((ae HB).trans' hbb)
 replace HO:=af ((ae HO).but hbb)
 have HD:=af (hd)
 clear hbb hd HL HH
 have LD:qd ((B (j+1))-(A i)) 500:=(qd.sub (ae lB _ hlj) (ae lA _ hi)).mono (by omega)
 obtain⟨D,hD⟩:∃ D,D=(B (j+1))-(A i):=⟨_,rfl⟩
 have HV:=af (ae hov i j)
 simp only[if_neg k1,if_pos k2] at HV
 rw[← hD] at HD LD HV
 clear hD
 have hsn:D.num.sign<0↔D<0:=by
  have h2:D<0↔D.num<0:=by
   rw[Rat.lt_iff]
   simp
  rw[h2]
  rcases Int.lt_trichotomy D.num 0 with h | h | h
  ·rw[Int.sign_eq_neg_one_of_neg h];omega
  ·rw[h];decide
  ·rw[Int.sign_eq_one_of_pos h];omega
 have HS:=af hsn
 clear hsn
 go_wp2_with fail
 refine (ae SG _ d D (ae HD) LD).mono ?_
 rintro e w7 ⟨rfl,hbb⟩
 replace HW:=af ((ae HW).trans' hbb)
 replace HB:=af ((ae HB).trans' hbb)
 replace HO:=af ((ae HO).but hbb)
 replace HD:=af ((ae HD).but hbb)
 clear hbb LD
 generalize D.num.sign=sg at *
 by_cases hneg:D<0
 ·(
 have hs:sg<0:=(ae HS).2 hneg
 have HV2:Hid (V i j=0):=by have:=ae HV;show _=_;rw[this,if_pos hneg]
 clear HS HV HD hneg
 go_wp2_with fail
 refine (ae I0 _).mono ?_
 rintro e w8 ⟨z,rfl,hz,hbb⟩
 replace HW:=af ((ae HW).trans' hbb)
 replace HB:=af ((ae HB).trans' hbb)
 replace HO:=af ((ae HO).but hbb)
 have HDD:Hid (zi w8 z (V i j)):=by show zi _ _ _;rw[ae HV2];exact hz
 clear hz hbb HV2
 obtain⟨X,hX⟩:∃ X,X=w8.alloc (.cells #[.pointer (some ⟨z,0,none⟩)] 37):=⟨_,rfl⟩
 have bX:But [] w8 X:=by rw[hX];exact (But.refl _ _).alloc _
 have cc:X.cell? ⟨w8.heap.size,0,none⟩=some (.pointer (some ⟨z,0,none⟩)):=by rw[hX];simp
 obtain⟨v',w',hr,ho,hBB,-⟩:=di X wi u7 _ vs wi.heap.size ((ae HO).but bX) w8.heap.size _ (V i j) cc ⟨z,rfl,(ae HDD).but bX⟩ (by simp;omega) ((ae HB).trans' bX) (Nat.le_refl _) ((ae HB).trans' bX).size
 have BF:Hid (But [] wi w'):=hBB
 have HO2:=af ho
 rw[hX] at hr
 have HR:=af hr
 clear hr ho hBB bX cc hX HDD
 go_wp2_with (at_builtin;refine zw rfl _ _ 42 42 rfl _ _ v' w' rfl rfl (ae HR) ?_)
 refine⟨⟨j+1,_,by omega,by go_num,by rw[List.range_succ,List.map_append];exact ae HO2,ae BF⟩,by simp[intOf];omega⟩)
 ·(
 have hs:¬ sg<0:=fun h=>hneg ((ae HS).1 h)
 have HDD:Hid (zi w7 d (V i j)):=by show zi _ _ _;rw[ae HV,if_neg hneg];exact ae HD
 clear HS HV HD hneg
 obtain⟨X,hX⟩:∃ X,X=w7.alloc (.cells #[.pointer (some ⟨d,0,none⟩)] 37):=⟨_,rfl⟩
 have bX:But [] w7 X:=by rw[hX];exact (But.refl _ _).alloc _
 have cc:X.cell? ⟨w7.heap.size,0,none⟩=some (.pointer (some ⟨d,0,none⟩)):=by rw[hX];simp
 obtain⟨v',w',hr,ho,hBB,-⟩:=di X wi u7 _ vs wi.heap.size ((ae HO).but bX) w7.heap.size _ (V i j) cc ⟨d,rfl,(ae HDD).but bX⟩ (by simp;omega) ((ae HB).trans' bX) (Nat.le_refl _) ((ae HB).trans' bX).size
 have BF:Hid (But [] wi w'):=hBB
 have HO2:=af ho
 rw[hX] at hr
 have HR:=af hr
 clear hr ho hBB bX cc hX HDD
 go_wp2_with (at_builtin;refine zw rfl _ _ 42 42 rfl _ _ v' w' rfl rfl (ae HR) ?_)
 refine⟨⟨j+1,_,by omega,by go_num,by rw[List.range_succ,List.map_append];exact ae HO2,ae BF⟩,by simp[intOf];omega⟩))
 ·(
 have hc:¬ c2<0:=fun h=>k2 ((ae HC).1 h)
 clear HC HY
 go_wp2_with fail
 refine (ae SU _ h0 l0 (A (i+1)) (A i) (ae HH) (ae HL) (ae lA _ hlt) (ae lA _ hi)).mono ?_
 rintro e w6 ⟨d,rfl,hd,hbb⟩
 replace HW:=af ((ae HW).trans' hbb)
 replace HB:=af ((ae HB).trans' hbb)
 replace HO:=af ((ae HO).but hbb)
 have HD:=af (hd)
 clear hbb hd HL HH
 have LD:qd ((A (i+1))-(A i)) 500:=(qd.sub (ae lA _ hlt) (ae lA _ hi)).mono (by omega)
 obtain⟨D,hD⟩:∃ D,D=(A (i+1))-(A i):=⟨_,rfl⟩
 have HV:=af (ae hov i j)
 simp only[if_neg k1,if_neg k2] at HV
 rw[← hD] at HD LD HV
 clear hD
 have hsn:D.num.sign<0↔D<0:=by
  have h2:D<0↔D.num<0:=by
   rw[Rat.lt_iff]
   simp
  rw[h2]
  rcases Int.lt_trichotomy D.num 0 with h | h | h
  ·rw[Int.sign_eq_neg_one_of_neg h];omega
  ·rw[h];decide
  ·rw[Int.sign_eq_one_of_pos h];omega
 have HS:=af hsn
 clear hsn
 go_wp2_with fail
 refine (ae SG _ d D (ae HD) LD).mono ?_
 rintro e w7 ⟨rfl,hbb⟩
 replace HW:=af ((ae HW).trans' hbb)
 replace HB:=af ((ae HB).trans' hbb)
 replace HO:=af ((ae HO).but hbb)
 replace HD:=af ((ae HD).but hbb)
 clear hbb LD
 generalize D.num.sign=sg at *
 by_cases hneg:D<0
 ·(
 have hs:sg<0:=(ae HS).2 hneg
 have HV2:Hid (V i j=0):=by have:=ae HV;show _=_;rw[this,if_pos hneg]
 clear HS HV HD hneg
 go_wp2_with fail
 refine (ae I0 _).mono ?_
 rintro e w8 ⟨z,rfl,hz,hbb⟩
 replace HW:=af ((ae HW).trans' hbb)
 replace HB:=af ((ae HB).trans' hbb)
 replace HO:=af ((ae HO).but hbb)
 have HDD:Hid (zi w8 z (V i j)):=by show zi _ _ _;rw[ae HV2];exact hz
 clear hz hbb HV2
 obtain⟨X,hX⟩:∃ X,X=w8.alloc (.cells #[.pointer (some ⟨z,0,none⟩)] 37):=⟨_,rfl⟩
 have bX:But [] w8 X:=by rw[hX];exact (But.refl _ _).alloc _
 have cc:X.cell? ⟨w8.heap.size,0,none⟩=some (.pointer (some ⟨z,0,none⟩)):=by rw[hX];simp
 obtain⟨v',w',hr,ho,hBB,-⟩:=di X wi u7 _ vs wi.heap.size ((ae HO).but bX) w8.heap.size _ (V i j) cc ⟨z,rfl,(ae HDD).but bX⟩ (by simp;omega) ((ae HB).trans' bX) (Nat.le_refl _) ((ae HB).trans' bX).size
 have BF:Hid (But [] wi w'):=hBB
 have HO2:=af ho
 rw[hX] at hr
 have HR:=af hr
 clear hr ho hBB bX cc hX HDD
 go_wp2_with (at_builtin;refine zw rfl _ _ 42 42 rfl _ _ v' w' rfl rfl (ae HR) ?_)
 refine⟨⟨j+1,_,by omega,by go_num,by rw[List.range_succ,List.map_append];exact ae HO2,ae BF⟩,by simp[intOf];omega⟩)
 ·(
 have hs:¬ sg<0:=fun h=>hneg ((ae HS).1 h)
 have HDD:Hid (zi w7 d (V i j)):=by show zi _ _ _;rw[ae HV,if_neg hneg];exact ae HD
 clear HS HV HD hneg
 obtain⟨X,hX⟩:∃ X,X=w7.alloc (.cells #[.pointer (some ⟨d,0,none⟩)] 37):=⟨_,rfl⟩
 have bX:But [] w7 X:=by rw[hX];exact (But.refl _ _).alloc _
 have cc:X.cell? ⟨w7.heap.size,0,none⟩=some (.pointer (some ⟨d,0,none⟩)):=by rw[hX];simp
 obtain⟨v',w',hr,ho,hBB,-⟩:=di X wi u7 _ vs wi.heap.size ((ae HO).but bX) w7.heap.size _ (V i j) cc ⟨d,rfl,(ae HDD).but bX⟩ (by simp;omega) ((ae HB).trans' bX) (Nat.le_refl _) ((ae HB).trans' bX).size
 have BF:Hid (But [] wi w'):=hBB
 have HO2:=af ho
 rw[hX] at hr
 have HR:=af hr
 clear hr ho hBB bX cc hX HDD
 go_wp2_with (at_builtin;refine zw rfl _ _ 42 42 rfl _ _ v' w' rfl rfl (ae HR) ?_)
 refine⟨⟨j+1,_,by omega,by go_num,by rw[List.range_succ,List.map_append];exact ae HO2,ae BF⟩,by simp[intOf];omega⟩)))))
 ·(
 obtain rfl:j=m:=by omega
 obtain⟨a',c',e'⟩:=(ae HO).form
 subst e'
 obtain⟨X,hX⟩:∃ X,X=wr.alloc (.cells #[.slice a' ((List.range j).map (V i)).length c'] 42):=⟨_,rfl⟩
 have bX:But [] wr X:=by rw[hX];exact (But.refl _ _).alloc _
 have cc:X.cell? ⟨wr.heap.size,0,none⟩=some (.slice a' ((List.range j).map (V i)).length c'):=by rw[hX];simp
 have bI:But [] wi X:=(ae HB).trans' bX
 obtain⟨v',w',hr,ho,hBB⟩:=zzo X w u5 i (fun i=>(List.range j).map (V i)) us w.heap.size ((ae HI).1.but bI) wr.heap.size _ cc ⟨vs,((ae HO).but bX).mono (ae HI).2.size⟩ (by omega) ((ae HI).2.trans' bI) (Nat.le_refl _) ((ae HI).2.trans' bI).size
 have BF:=af hBB
 have HO2:=af ho
 rw[hX] at hr
 have HR:=af hr
 clear hr ho hBB bX cc bI hX
 simp only[List.length_map,List.length_range] at *
 go_wp2_with (at_builtin;refine zw rfl _ _ 72 72 rfl _ _ v' w' rfl rfl (ae HR) ?_)
 exact⟨⟨i+1,_,by omega,by go_num,ae HO2,ae BF⟩,by simp[intOf];omega⟩)))
 ·(
 obtain rfl:i=n:=by omega
 obtain⟨a',c',e'⟩:=(ae HI).1.form
 subst e'
 go_wp2
 go_ret
 exact⟨_,us,rfl,(ae HI).1,(ae HI).2⟩)))
end Go.Proofs.YtagmkkiagjmimaaGreatDoor
