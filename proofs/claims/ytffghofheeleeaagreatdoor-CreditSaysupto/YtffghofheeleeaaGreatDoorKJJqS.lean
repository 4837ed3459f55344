/- Out of OG: what needs no more than these -/
import Derived.Test.YtffghofheeleeaaGreatDoorKT3rqS
namespace Go.Proofs.YtffghofheeleeaaGreatDoor
open Go.Proofs.Tryz
open Go.RowKit
set_option maxHeartbeats 32000000
set_option maxRecDepth 100000
theorem zma {x:Rat} {n:Nat} (h:Len x n) (hn:1≤n):Len (zha x) n:=by
 unfold zha
 split
 ·exact h
 ·exact zbw _ hn
def zle (ls:List (List Rat)):Int:=if ¬ (2≤ls.length∧ls.length≤40)∨¬ (2≤(ls[0]?.getD []).length∧(ls[0]?.getD []).length≤40) then 4 else if ls.any (fun l=>l.length != (ls[0]?.getD []).length) then 3 else 0
theorem zob (n:Nat) (hn:n<1000000) (w:World):Calls prog 126 #[.int .i64 (n:Int)] w fun e w'=>e=.returned (.bool (decide (2≤n∧n≤40)))∧But [] w w':=by
 obtain⟨b,hb⟩:∃ b,b=decide (2≤n∧n≤40):=⟨_,rfl⟩
 rw[← hb]
 by_cases h1:2≤n
 ·by_cases h2:n≤40
  ·obtain rfl:b=true:=by rw[hb];exact decide_eq_true ⟨h1,h2⟩
   clear hb
   go_enter func126,ntmps126
   go_wp2
   go_ret
   exact⟨by show Ending.returned (.bool (decide ((n:Int)≤40)))=_;rw[decide_eq_true (by omega)],But.refl _ _⟩
  ·obtain rfl:b=false:=by rw[hb];exact decide_eq_false (fun h=>h2 h.2)
   clear hb
   go_enter func126,ntmps126
   go_wp2
   go_ret
   exact⟨by show Ending.returned (.bool (decide ((n:Int)≤40)))=_;rw[decide_eq_false (by omega)],But.refl _ _⟩
 ·obtain rfl:b=false:=by rw[hb];exact decide_eq_false (fun h=>h1 h.1)
  clear hb
  go_enter func126,ntmps126
  go_wp2
  go_ret
  exact⟨rfl,But.refl _ _⟩
theorem wu.at {w:World} {q:Option Addr} {n cap:Nat} {ls:List (List Rat)} (h:wu w (.slice q n cap) ls) (i:Nat) (hi:i<n):∃ b off a c,q=some ⟨b,off,none⟩∧w.cell? ⟨b,off+i,none⟩=some (.slice a (ls[i]?.getD []).length c)∧au w (.slice a (ls[i]?.getD []).length c) (ls[i]?.getD []):=by
 have hi2:i<ls.length:=by
  obtain⟨a,cap',e,-,-⟩:=h
  simp only[Value.slice.injEq] at e
  omega
 obtain⟨b,off,u,e1,h1,h2⟩:=h.get i hi2
 obtain⟨a,c,rfl,-,-⟩:=id h2
 exact⟨b,off,a,c,e1,h1,h2⟩
theorem zjx (q:Option Addr) (n cap:Nat) (ls:List (List Rat)) (w:World) (hv:wu w (.slice q n cap) ls) (hN:n=ls.length) (hn:n≤1000) (hl:∀ i,i<n→(ls[i]?.getD []).length≤1000) :
  Calls prog 60 #[.slice q n cap] w fun e w'=>e=.returned (zmf (zle ls))∧But [] w w':=by
 obtain⟨ce,hce⟩:∃ ce,ce=zle ls:=⟨_,rfl⟩
 rw[← hce]
 obtain⟨m,hm⟩:∃ m,m=(ls[0]?.getD []).length:=⟨_,rfl⟩
 have HCE:Hid (ce=if ¬ (2≤n∧n≤40)∨¬ (2≤m∧m≤40) then 4 else if ls.any (fun l=>l.length != m) then 3 else 0):=by
  show _=_
  rw[hce,hm,hN];rfl
 have S1:=af (zob n (by omega))
 have HV:=af hv
 have HN:=af hN
 have HL:=af hl
 have HM:=af hm
 clear hv hN hl hm hce
 by_cases h1:2≤n∧n≤40
 ·obtain⟨h1a,h1b⟩:=h1
  rw[decide_eq_true (show 2≤n∧n≤40 from ⟨h1a,h1b⟩)] at S1
  obtain⟨b,off,a0,c0,rfl,hc0,-⟩:=(ae HV).at 0 (by omega)
  rw[← ae HM,Nat.add_zero] at hc0
  have hm1:m≤1000:=by rw[ae HM];exact ae HL 0 (by omega)
  have S2:=af (zob m (by omega))
  by_cases h2:2≤m∧m≤40
  ·obtain⟨h2a,h2b⟩:=h2
   rw[decide_eq_true (show 2≤m∧m≤40 from ⟨h2a,h2b⟩)] at S2
   have HC2:Hid (ce=if ls.any (fun l=>l.length != m) then 3 else 0):=by
    show _=_
    rw[ae HCE,if_neg (by omega)]
   have HC0:=af hc0
   clear HCE
   go_enter func60,ntmps60
   go_wp2_with fail
   refine (ae S1 _).mono ?_
   rintro e w1 ⟨rfl,hb1⟩
   have B1:=af hb1
   have hc1:=hb1.ag hc0 (by simp)
   clear hb1 S1 hc0
   go_wp2_with fail
   refine (ae S2 _).mono ?_
   rintro e w2 ⟨rfl,hb2⟩
   have B2:=af ((ae B1).trans' hb2)
   clear hb2 S2 hc1 B1
   go_wp2
   go_loopw [20] (fun iv wr=>∃ k:Nat,k≤n∧iv=.int .i64 (k:Int)∧Hid ((∀ j,j<k→(ls[j]?.getD []).length=m)∧But [] w wr)) (fun iv _=>n-(intOf iv).toNat)
   case atStart=>exact⟨0,Nat.zero_le _,rfl,fun j hj=>absurd hj (by omega),ae B2⟩
   case round =>
    obtain⟨k,hk,rfl,HI⟩:=hrel
    rename World=>wr
    clear B2
    by_cases hlt:k<n
    ·have hkl:k<ls.length:=by have:=ae HN;omega
     have hlk:=ae HL k hlt
     have hc0:=(ae HI).2.ag (ae HC0) (by simp)
     obtain⟨b',off',ak,ck,e',hck,-⟩:=((ae HV).but (ae HI).2).at k hlt
     simp only[Option.some.injEq,Addr.mk.injEq,and_true] at e'
     obtain⟨rfl,rfl⟩:=e'
     obtain⟨lk,hlk2⟩:∃ lk,lk=(ls[k]?.getD []).length:=⟨_,rfl⟩
     rw[← hlk2] at hck hlk
     have HLK:=af hlk2
     clear hlk2
     by_cases heq:lk=m
     ·have HEQ:=af heq
      subst heq
      go_wp2
      refine⟨⟨k+1,by omega,by go_num,fun j hj=>?_,(ae HI).2⟩,by simp[intOf];omega⟩
      by_cases e:j=k
      ·rw[e,← ae HLK]
      ·exact (ae HI).1 j (by omega)
     ·have e3:ce=3:=by
       rw[ae HC2,if_pos (List.any_eq_true.2 ⟨ls[k],List.getElem_mem hkl,by
        have:=ae HLK
        rw[List.getElem?_eq_getElem hkl,Option.getD_some] at this
        rw[← this]
        simpa using heq⟩)]
      subst e3
      have hne:¬ (lk:Int)=(m:Int):=by omega
      clear heq
      go_wp2
      go_ret
      exact⟨rfl,(ae HI).2⟩
    ·obtain rfl:k=n:=by omega
     have e0:ce=0:=by
      rw[ae HC2,if_neg (fun h=>?_)]
      obtain⟨l,hl,hne⟩:=List.any_eq_true.1 h
      obtain⟨j,hj,rfl⟩:=List.mem_iff_getElem.1 hl
      have:=(ae HI).1 j (by have:=ae HN;omega)
      rw[List.getElem?_eq_getElem hj,Option.getD_some] at this
      simp[this] at hne
     subst e0
     go_wp2
     go_ret
     exact⟨rfl,(ae HI).2⟩
  ·rw[decide_eq_false h2] at S2
   have e4:ce=4:=by rw[ae HCE,if_pos (.inr h2)]
   subst e4
   clear h2 HCE
   go_enter func60,ntmps60
   go_wp2_with fail
   refine (ae S1 _).mono ?_
   rintro e w1 ⟨rfl,hb1⟩
   have B1:=af hb1
   have hc1:=hb1.ag hc0 (by simp)
   clear hb1 S1 hc0
   go_wp2_with fail
   refine (ae S2 _).mono ?_
   rintro e w2 ⟨rfl,hb2⟩
   have B2:=af ((ae B1).trans' hb2)
   clear hb2 S2 hc1 B1
   go_wp2
   go_ret
   exact⟨rfl,ae B2⟩
 ·rw[decide_eq_false h1] at S1
  have e4:ce=4:=by rw[ae HCE,if_pos (.inl h1)]
  subst e4
  clear h1 HCE
  go_enter func60,ntmps60
  go_wp2_with fail
  refine (ae S1 _).mono ?_
  rintro e w1 ⟨rfl,hb1⟩
  have B1:=af hb1
  clear hb1 S1
  go_wp2
  go_ret
  exact⟨rfl,ae B1⟩
def rmR (ls:List (List Rat)) (m i:Nat):Rat:=sgR (atR (ls[i]?.getD [])) m/(((m:Nat):Int):Rat)
def rsR (ls:List (List Rat)) (m i:Nat):Rat:=spR (atR (ls[i]?.getD [])) m
def esA (ls:List (List Rat)) (m n:Nat):Rat:=sgR (rmR ls m) n/(((n:Nat):Int):Rat)
def esW (ls:List (List Rat)) (m n:Nat):Rat:=sgR (rsR ls m) n/(((n:Nat):Int):Rat)
def esD (ls:List (List Rat)) (m n:Nat):Rat:=esW ls m n/(((m:Nat):Int):Rat)
def esB (ls:List (List Rat)) (m n:Nat):Rat:=zha (spR (rmR ls m) n-esD ls m n)
def esO (ls:List (List Rat)) (m n:Nat):Rat:=zaz (esB ls m n) (esD ls m n)
def esP (ls:List (List Rat)) (m n j:Nat):Rat:=esA ls m n+esO ls m n*(rmR ls m j-esA ls m n)
theorem qge (f g:Nat→Rat) (n:Nat) (h:∀ k,k<n→f k=g k):spR f n=spR g n:=by
 unfold spR
 rw[yo f g n h,yo (fun j=>f j*f j) (fun j=>g j*g j) n (fun k hk=>by rw[h k hk])]
theorem zwn (c:Nat) (f:Nat→Rat) (n:Nat) (h:∀ k,k<n→Len (f k) c):∀ k,k≤n→Len (sgR f k) (k*(c+1)+1)
 | 0,_=>zbw _ (by omega)
 | k+1,hk=>by
  have ih:=zwn c f n h k (by omega)
  show Len (sgR f k+f k) _
  exact mi ih (h k (by omega)) _ (by rw[Nat.succ_mul];omega)
theorem yw (f:Nat→Rat) (n c:Nat) (hn0:2≤n) (hn:n≤40) (h:∀ k,k<n→Len (f k) c):Len (sgR f n/(((n:Nat):Int):Rat)) (40*(c+1)+2)∧Len (spR f n) (160*(c+1)+10)∧(∀ k,k≤n→Len (sgR f k) (40*(c+1)+1))∧∀ k,k≤n→Len (sgR (fun j=>f j*f j) k) (40*(2*c+1)+1):=by
 have a1:∀ k,k≤n→Len (sgR f k) (40*(c+1)+1):=fun k hk=>(zwn c f n h k hk).mono (by have:=Nat.mul_le_mul (show k≤40 by omega) (Nat.le_refl (c+1));omega)
 have a2:∀ k,k≤n→Len (sgR (fun j=>f j*f j) k) (40*(2*c+1)+1):=fun k hk=>(zwn (2*c) (fun j=>f j*f j) n (fun j hj=>jd (h j hj) (h j hj) (2*c) (by omega)) k hk).mono (by have:=Nat.mul_le_mul (show k≤40 by omega) (Nat.le_refl (2*c+1));omega)
 have a3:Len (sgR f n/(((n:Nat):Int):Rat)) (40*(c+1)+2):=ru (a1 n (Nat.le_refl _)) (kr (n:Int) (by omega)) (by rw[(bp (n:Int)).1];omega) _ (by omega)
 refine⟨a3,?_,a1,a2⟩
 have b1:=jd a3 (a1 n (Nat.le_refl _)) (80*(c+1)+3) (by omega)
 have b2:=fe (a2 n (Nat.le_refl _)) b1 (160*(c+1)+9) (by omega)
 exact ru b2 (kr ((n-1:Nat):Int) (by omega)) (by rw[(bp ((n-1:Nat):Int)).1];omega) _ (by omega)
theorem zmv {w:World} {g n:Nat} {F:Nat→Rat} (h:je w g n F):au w (.slice (some ⟨g,0,none⟩) n n) ((List.range n).map F):=h.zme
theorem qzl (F:Nat→Rat) (n:Nat):spR (atR ((List.range n).map F)) n=spR F n:=qge _ _ n (fun k hk=>zed F n k hk)
theorem qcr (F:Nat→Rat) (n k:Nat) (hk:k≤n):sgR (atR ((List.range n).map F)) k=sgR F k:=yo _ _ k (fun j hj=>zed F n j (by omega))
theorem qzk (F:Nat→Rat) (n k:Nat) (hk:k≤n):sgR (fun j=>atR ((List.range n).map F) j*atR ((List.range n).map F) j) k=sgR (fun j=>F j*F j) k:=yo _ _ k (fun j hj=>by rw[zed F n j (by omega)])
theorem zop (g n c:Nat) (F:Nat→Rat) (w:World) (h:je w g n F) (hn0:2≤n) (hn:n≤40) (hc:c≤400) (lf:∀ k,k<n→Len (F k) c) :
  Calls prog 61 #[.slice (some ⟨g,0,none⟩) n n] w fun e w'=>∃ v,e=.returned v∧aq w' v (sgR F n/(((n:Nat):Int):Rat))∧But [] w w':=by
 obtain⟨-,-,l1,l2⟩:=yw F n c hn0 hn lf
 have:=zfc g 0 n n _ w (zmv h) (by omega) (by omega) (fun k hk=>by rw[zed F n k hk];exact (lf k hk).mono (by omega)) (fun k hk=>by rw[qcr F n k hk];exact (l1 k hk).mono (by omega))
 rw[qcr F n n (Nat.le_refl _)] at this
 exact this
theorem zta (g n c:Nat) (F:Nat→Rat) (w:World) (h:je w g n F) (hn0:2≤n) (hn:n≤40) (hc:c≤400) (lf:∀ k,k<n→Len (F k) c) :
  Calls prog 62 #[.slice (some ⟨g,0,none⟩) n n] w fun e w'=>∃ v,e=.returned v∧aq w' v (spR F n)∧But [] w w':=by
 obtain⟨-,-,l1,l2⟩:=yw F n c hn0 hn lf
 have:=zqf g 0 n n _ w (zmv h) hn0 (by omega) (fun k hk=>by rw[zed F n k hk];exact (lf k hk).mono (by omega)) (fun k hk=>by rw[qcr F n k hk];exact (l1 k hk).mono (by omega)) (fun k hk=>by rw[qzk F n k hk];exact (l2 k hk).mono (by omega))
 rw[qzl] at this
 exact this
theorem qbn (b off cap n m:Nat) (ls:List (List Rat)) (w:World) (hv:wu w (.slice (some ⟨b,off,none⟩) n cap) ls) (hN:n=ls.length) (hm:∀ i,i<n→(ls[i]?.getD []).length=m) (hn1:2≤n) (hn2:n≤40) (hm1:2≤m) (hm2:m≤40) (lf:∀ i j,i<n→j<m→Len (atR (ls[i]?.getD []) j) 1) (hne:(esB ls m n).num≠0→(esB ls m n+esD ls m n).num≠0) (hk:zle ls=0) :
  Calls prog 21 #[.slice (some ⟨b,off,none⟩) n cap] w fun e w'=>∃ v,e=.returned (.tuple #[v,.nilIface])∧zeg (esA ls m n) (esW ls m n) (esB ls m n) (esO ls m n) w.heap.size n (esP ls m n) w' v∧But [] w w':=by
 have CK:=af (fun W (h:But [] w W)=>zjx (some ⟨b,off,none⟩) n cap ls W (hv.but h) hN (by omega) (fun i hi=>by rw[hm i hi];omega))
 rw[hk] at CK
 have lr:∀ i,i<n→Len (rmR ls m i) 82∧Len (rsR ls m i) 330:=fun i hi=>by
  obtain⟨h1,h2,-,-⟩:=yw (atR (ls[i]?.getD [])) m 1 hm1 hm2 (fun k hk=>lf i k hi hk)
  exact⟨h1.mono (by omega),h2.mono (by omega)⟩
 have ROW:Hid (∀ i,i<n→∀ W,But [] w W→∃ a c,W.cell? ⟨b,off+i,none⟩=some (.slice a m c)∧(Calls prog 61 #[.slice a m c] W fun e w'=>∃ v,e=.returned v∧aq w' v (rmR ls m i)∧But [] W w')∧∀ W',But [] W W'→Calls prog 62 #[.slice a m c] W' fun e w'=>∃ v,e=.returned v∧aq w' v (rsR ls m i)∧But [] W' w'):=fun i hi W hb=>by
  obtain⟨b',off',a,c,e',hc,hfs⟩:=(hv.but hb).at i hi
  simp only[Option.some.injEq,Addr.mk.injEq,and_true] at e'
  obtain⟨rfl,rfl⟩:=e'
  rw[hm i hi] at hc hfs
  obtain⟨-,-,l1,l2⟩:=yw (atR (ls[i]?.getD [])) m 1 hm1 hm2 (fun k hk=>lf i k hi hk)
  rcases hfs.open with ⟨er,a',c',e2⟩|⟨-,rb,roff,rc,e2,-,-⟩
  ·have h0:=hm i hi
   rw[er] at h0
   simp at h0
   omega
  ·simp only[Value.slice.injEq] at e2
   obtain⟨rfl,-,rfl⟩:=e2
   exact⟨_,_,hc,zfc rb roff c m _ W hfs (by omega) (by omega) (fun k hk=>(lf i k hi hk).mono (by omega)) (fun k hk=>(l1 k hk).mono (by omega)),fun W' hb'=>zqf rb roff c m _ W' (hfs.but hb') hm1 (by omega) (fun k hk=>(lf i k hi hk).mono (by omega)) (fun k hk=>(l1 k hk).mono (by omega)) (fun k hk=>(l2 k hk).mono (by omega))⟩
 obtain⟨lA,lS,-,-⟩:=yw (rmR ls m) n 82 hn1 hn2 (fun k hk=>(lr k hk).1)
 obtain⟨lW,-,-,-⟩:=yw (rsR ls m) n 330 hn1 hn2 (fun k hk=>(lr k hk).2)
 have lA':Len (esA ls m n) 3322:=lA
 have lW':Len (esW ls m n) 13242:=lW
 have lD:Len (esD ls m n) 13243:=ru lW' (kr (m:Int) (by omega)) (by rw[(bp (m:Int)).1];omega) 13243 (by omega)
 have lSD:Len (spR (rmR ls m) n-esD ls m n) 26535:=fe lS lD 26535 (by omega)
 have lB:Len (esB ls m n) 26535:=zma lSD (by omega)
 have lO:Len (esO ls m n) 66500:=by
  show Len (zaz (esB ls m n) (esD ls m n)) 66500
  unfold zaz
  by_cases h:(esB ls m n).num=0
  ·rw[if_pos h];exact zbw _ (by omega)
  ·rw[if_neg h]
   exact ru lB (mi lB lD 39779 (by omega)) (hne h) _ (by omega)
 have ME1:=af (fun W g (h:je W g n (rmR ls m))=>zop g n 82 (rmR ls m) W h hn1 hn2 (by omega) (fun k hk=>(lr k hk).1))
 have ME2:=af (fun W g (h:je W g n (rsR ls m))=>zop g n 330 (rsR ls m) W h hn1 hn2 (by omega) (fun k hk=>(lr k hk).2))
 have SPR:=af (fun W g (h:je W g n (rmR ls m))=>zta g n 82 (rmR ls m) W h hn1 hn2 (by omega) (fun k hk=>(lr k hk).1))
 have PRE:Hid (∀ W g va vo,je W g n (rmR ls m)→aq W va (esA ls m n)→aq W vo (esO ls m n)→Calls prog 65 #[.slice (some ⟨g,0,none⟩) n n,va,vo] W fun e w'=>∃ g,e=.returned (.slice (some ⟨g,0,none⟩) n n)∧je w' g n (esP ls m n)∧W.heap.size≤g∧g<w'.heap.size∧But [] W w'):=fun W g va vo h1 h2 h3=>by
  refine (zwc g 0 n n _ va vo _ _ W (zmv h1) h2 h3 (by omega) (by omega) (fun k hk=>by rw[zed _ n k hk];exact (lr k hk).1.mono (by omega)) (lA'.mono (by omega)) (lO.mono (by omega))).mono ?_
  rintro e w' ⟨g',e1,h4,h5,h6,h7⟩
  exact⟨g',e1,h4.congr (fun j hj=>by rw[zed _ n j hj];rfl),h5,h6,h7⟩
 have OWN:Hid (∀ W va vb,aq W va (esB ls m n)→aq W vb (esD ls m n)→Calls prog 54 #[va,vb] W fun e w'=>∃ v,e=.returned v∧aq w' v (esO ls m n)∧But [] W w'):=fun W va vb h1 h2=>zim va vb _ _ W h1 h2 (lB.mono (by omega)) (lD.mono (by omega)) hne
 have QUO:Hid (∀ W v,aq W v (esW ls m n)→Calls prog 63 #[v,.int .i64 (m:Int)] W fun e w'=>∃ v,e=.returned v∧aq w' v (esD ls m n)∧But [] W w'):=fun W v h=>zac v _ (m:Int) W h (lW'.mono (by omega)) (by omega) (by omega)
 have SUB:Hid (∀ W va vb,aq W va (spR (rmR ls m) n)→aq W vb (esD ls m n)→Calls prog 31 #[va,vb] W fun e w'=>∃ v,e=.returned v∧aq w' v (spR (rmR ls m) n-esD ls m n)∧But [] W w'):=fun W va vb h1 h2=>zbh va vb _ _ W h1 h2 (lS.mono (by omega)) (lD.mono (by omega))
 have hcell:Hid (∃ a c,w.cell? ⟨b,off,none⟩=some (.slice a m c)):=by
  obtain⟨a,c,h,-⟩:=ae ROW 0 (by omega) w (But.refl _ _)
  rw[Nat.add_zero] at h
  exact⟨a,c,h⟩
 have hEA:esA ls m n=sgR (rmR ls m) n/(((n:Nat):Int):Rat):=rfl
 have hEW:esW ls m n=sgR (rsR ls m) n/(((n:Nat):Int):Rat):=rfl
 have hED:esD ls m n=esW ls m n/(((m:Nat):Int):Rat):=rfl
 have hEB:esB ls m n=zha (spR (rmR ls m) n-esD ls m n):=rfl
 rw[← hEA] at ME1
 rw[← hEW] at ME2
 have HED:=af hED
 have HEB:=af hEB
 generalize esP ls m n=PF at *
 generalize esA ls m n=EA at *
 generalize esW ls m n=EW at *
 generalize esD ls m n=ED at *
 generalize esB ls m n=EB at *
 generalize esO ls m n=EO at *
 generalize spR (rmR ls m) n=SR at *
 generalize rmR ls m=FM at *
 generalize rsR ls m=FS at *
 have x4:xg (w.alloc (.cells #[.bool false,.int .u64 0,.int .u64 0,.pointer none,.bool false,.int .u64 0,.int .u64 0,.pointer none,.bool false,.int .u64 0,.int .u64 0,.pointer none,.bool false,.int .u64 0,.int .u64 0,.pointer none,.slice none 0 0] 64)) w.heap.size [.bool false,.int .u64 0,.int .u64 0,.pointer none,.bool false,.int .u64 0,.int .u64 0,.pointer none,.bool false,.int .u64 0,.int .u64 0,.pointer none,.bool false,.int .u64 0,.int .u64 0,.pointer none,.slice none 0 0]:=xg.new w _ _
 have bA:But [] w (w.alloc (.cells #[.bool false,.int .u64 0,.int .u64 0,.pointer none,.bool false,.int .u64 0,.int .u64 0,.pointer none,.bool false,.int .u64 0,.int .u64 0,.pointer none,.bool false,.int .u64 0,.int .u64 0,.pointer none,.slice none 0 0] 64)):=(But.refl _ _).alloc _
 have X4:=af x4
 have BA:=af bA
 have Q2:Hid (w.heap.size≤w.heap.size):=Nat.le_refl _
 clear x4 bA hv hN hm lf hne hk lr lA lS lW lA' lW' lD lSD lB lO hEA hEW hED hEB
 go_enter func21,ntmps21
 go_wp2_with fail
 refine (ae CK _ (ae BA)).mono ?_
 rintro e w1 ⟨rfl,hb1⟩
 have B1:=af ((ae BA).trans' hb1)
 have X41:=af ((ae X4).but hb1 (by simp) (by simp))
 clear hb1 X4 BA CK
 rw[show zmf 0=.nilIface from rfl]
 go_wp2
 refine zpy 4 _ _ w1 (some ⟨b,off,none⟩) n cap (by omega) (by simp) (by simp[Act.eval]) ?_
 intro w2 g1 g2 hb2 hr1 hr2 hg1 hg2 hl1 hl2 hgn
 simp only[bk,List.foldl_cons,List.foldl_nil,Act.put,List.setIfInBounds_toArray,List.set_cons_zero,List.set_cons_succ]
 have B2:=af ((ae B1).trans' hb2)
 have X42:=af ((ae X41).but hb2 (by simp) (by simp))
 have R1:=af hr1
 have R2:=af hr2
 have g4l:w.heap.size<w1.heap.size:=(ae X41).lt (by simp)
 clear hb2 hr1 hr2 B1 X41
 generalize hg4:w.heap.size=g4 at *
 have o1:g4<g1:=by omega
 have o2:g4<g2:=by omega
 go_wp2
 go_loopw [28] (fun iv wr=>∃ k:Nat,k≤n∧iv=.int .i64 (k:Int)∧Hid ((∃ F,je wr g1 n F∧∀ j,j<k→F j=FM j)∧(∃ F,je wr g2 n F∧∀ j,j<k→F j=FS j)∧xg wr g4 [.bool false,.int .u64 0,.int .u64 0,.pointer none,.bool false,.int .u64 0,.int .u64 0,.pointer none,.bool false,.int .u64 0,.int .u64 0,.pointer none,.bool false,.int .u64 0,.int .u64 0,.pointer none,.slice none 0 0]∧(g1<wr.heap.size∧g2<wr.heap.size)∧But [] w wr)) (fun iv _=>n-(intOf iv).toNat)
 case atStart=>exact⟨0,Nat.zero_le _,rfl,⟨_,ae R1,fun j hj=>absurd hj (by omega)⟩,⟨_,ae R2,fun j hj=>absurd hj (by omega)⟩,ae X42,⟨hl1,hl2⟩,ae B2⟩
 case round =>
  obtain⟨k,hk,rfl,HI⟩:=hrel
  rename World=>wr
  clear R1 R2 X42 B2 hl1 hl2
  by_cases hlt:k<n
  ·obtain⟨⟨F1,hF1,hT1⟩,⟨F2,hF2,hT2⟩,hX,⟨hs1,hs2⟩,hbw⟩:=ae HI
   obtain⟨ak,ck,hck,hme,hsp⟩:=ae ROW k hlt wr hbw
   have ME:=af hme
   have SP:=af hsp
   clear hme hsp hF1 hT1 hF2 hT2 hX hbw
   go_wp2_with fail
   refine (ae ME).mono ?_
   rintro e w3 ⟨v3,rfl,hf3,hb3⟩
   obtain⟨x3,y3,p3,rfl,-⟩:=id hf3.agg
   generalize decide ((FM k).num<0)=s3 at *
   have B3:=af hb3
   have F3:=af hf3
   have SP3:=af (ae SP w3 hb3)
   clear hb3 hf3 ME SP hck
   go_wp2_with fail
   refine (ae SP3).mono ?_
   rintro e w5 ⟨v5,rfl,hf5,hb5⟩
   obtain⟨x5,y5,p5,rfl,-⟩:=id hf5.agg
   generalize decide ((FS k).num<0)=s5 at *
   have B5:=af ((ae B3).trans' hb5)
   have F35:=af ((ae F3).but hb5)
   have F55:=af hf5
   clear hb5 hf5 SP3 F3 B3
   obtain⟨⟨F1,hF1,hT1⟩,⟨F2,hF2,hT2⟩,hX,⟨hs1,hs2⟩,hbw⟩:=ae HI
   have r1:=hF1.but (ae B5) hs1
   have r2:=hF2.but (ae B5) hs2
   have z1:=r1.loose
   have z2:=r2.loose
   obtain⟨ta,aa,ba,qa,⟨k0,k1,k2,k3⟩,-⟩:=r1.told k hlt
   obtain⟨tb,ab,bb,qb,⟨l0,l1,l2,l3⟩,-⟩:=r2.told k hlt
   have hbo1:=r1.bool (show 0<n by omega)
   have hbo2:=r2.bool (show 0<n by omega)
   have hS1:=br w5 g1 [.bool s3,.int .u64 x3,.int .u64 y3,.pointer p3] (k*4)
   have r1':=r1.set hlt s3 x3 y3 p3 _ (ae F35)
   have r2':je (w5.setCells g1 (k*4) [.bool s3,.int .u64 x3,.int .u64 y3,.pointer p3]) g2 n F2:=⟨fun j hj=>(r2.told j hj).beside hS1 (by simp;omega) (fun g hg=>by simp at hg;subst hg;exact hbo1),fun o=>by rw[World.frozen?_setCells];exact z2 o⟩
   have f5':=(ae F55).beside hS1 (fun g hg=>by simp at hg;subst hg;exact hbo1)
   have hX':=(hX.but (ae B5) (by simp) (by simp)).but hS1 (by simp;omega) (by simp)
   have l0':=hS1.ag l0 (by simp;omega)
   have l1':=hS1.ag l1 (by simp;omega)
   have l2':=hS1.ag l2 (by simp;omega)
   have l3':=hS1.ag l3 (by simp;omega)
   have hbo2':=r2'.bool (show 0<n by omega)
   have hS2:=br (w5.setCells g1 (k*4) [.bool s3,.int .u64 x3,.int .u64 y3,.pointer p3]) g2 [.bool s5,.int .u64 x5,.int .u64 y5,.pointer p5] (k*4)
   have r2'':=r2'.set hlt s5 x5 y5 p5 _ f5'
   have r1'':je ((w5.setCells g1 (k*4) [.bool s3,.int .u64 x3,.int .u64 y3,.pointer p3]).setCells g2 (k*4) [.bool s5,.int .u64 x5,.int .u64 y5,.pointer p5]) g1 n (qgi F1 k (FM k)):=⟨fun j hj=>(r1'.told j hj).beside hS2 (by simp;omega) (fun g hg=>by simp at hg;subst hg;exact hbo2'),fun o=>by rw[World.frozen?_setCells];exact r1'.loose o⟩
   have hX'':=hX'.but hS2 (by simp;omega) (by simp)
   have JJ:Hid ((∃ F,je ((w5.setCells g1 (k*4) [.bool s3,.int .u64 x3,.int .u64 y3,.pointer p3]).setCells g2 (k*4) [.bool s5,.int .u64 x5,.int .u64 y5,.pointer p5]) g1 n F∧∀ j,j<k+1→F j=FM j)∧(∃ F,je ((w5.setCells g1 (k*4) [.bool s3,.int .u64 x3,.int .u64 y3,.pointer p3]).setCells g2 (k*4) [.bool s5,.int .u64 x5,.int .u64 y5,.pointer p5]) g2 n F∧∀ j,j<k+1→F j=FS j)∧xg ((w5.setCells g1 (k*4) [.bool s3,.int .u64 x3,.int .u64 y3,.pointer p3]).setCells g2 (k*4) [.bool s5,.int .u64 x5,.int .u64 y5,.pointer p5]) g4 [.bool false,.int .u64 0,.int .u64 0,.pointer none,.bool false,.int .u64 0,.int .u64 0,.pointer none,.bool false,.int .u64 0,.int .u64 0,.pointer none,.bool false,.int .u64 0,.int .u64 0,.pointer none,.slice none 0 0]∧(g1<((w5.setCells g1 (k*4) [.bool s3,.int .u64 x3,.int .u64 y3,.pointer p3]).setCells g2 (k*4) [.bool s5,.int .u64 x5,.int .u64 y5,.pointer p5]).heap.size∧g2<((w5.setCells g1 (k*4) [.bool s3,.int .u64 x3,.int .u64 y3,.pointer p3]).setCells g2 (k*4) [.bool s5,.int .u64 x5,.int .u64 y5,.pointer p5]).heap.size)∧But [] w ((w5.setCells g1 (k*4) [.bool s3,.int .u64 x3,.int .u64 y3,.pointer p3]).setCells g2 (k*4) [.bool s5,.int .u64 x5,.int .u64 y5,.pointer p5])) :=
    ⟨⟨_,r1'',fun j hj=>by
     unfold qgi
     by_cases e:j=k
     ·rw[if_pos e,e]
     ·rw[if_neg e];exact hT1 j (by omega)⟩,⟨_,r2'',fun j hj=>by
     unfold qgi
     by_cases e:j=k
     ·rw[if_pos e,e]
     ·rw[if_neg e];exact hT2 j (by omega)⟩,hX'',by
     have a1:=(ae B5).size
     have a2:=hS1.size
     have a3:=hS2.size
     omega,((hbw.trans' (ae B5)).trans hS1 (fun x hx=>by simp at hx;subst hx;exact .inr (by omega))).trans hS2 (fun x hx=>by simp at hx;subst hx;exact .inr (by omega))⟩
   clear hF1 hT1 hF2 hT2 hX hbw r1 r2 hbo1 hbo2 hS1 r1' r2' f5' hX' hbo2' hS2 r1'' r2'' hX'' HI F35 F55 B5 l0' l1' l2' l3'
   go_wp2
   exact⟨⟨k+1,by omega,by go_num,ae JJ⟩,by simp[intOf];omega⟩
  ·obtain rfl:k=n:=by omega
   obtain⟨⟨F1,hF1,hT1⟩,⟨F2,hF2,hT2⟩,hX,⟨hs1,hs2⟩,hbw⟩:=ae HI
   have R1:Hid (je wr g1 k FM):=hF1.congr (fun j hj=>hT1 j hj)
   have R2:Hid (je wr g2 k FS):=hF2.congr (fun j hj=>hT2 j hj)
   have X3:=af hX
   have B3:=af hbw
   have MA:=af (ae ME1 wr g1 (ae R1))
   clear hF1 hT1 hF2 hT2 hX hbw HI ROW ME1
   go_wp2_with fail
   refine (ae MA).mono ?_
   rintro e w4 ⟨v4,rfl,hf4,hb4⟩
   obtain⟨x4,y4,p4,rfl,-⟩:=id hf4.agg
   generalize decide (EA.num<0)=s4 at *
   have MB:=af (ae ME2 w4 g2 ((ae R2).but hb4 hs2))
   have R14:=af ((ae R1).but hb4 hs1)
   have X34:=af ((ae X3).but hb4 (by simp) (by simp))
   have B4:=af ((ae B3).trans' hb4)
   have F4:=af hf4
   have hs14:=Nat.lt_of_lt_of_le hs1 hb4.size
   clear hb4 hf4 MA ME2 R1 R2 X3 B3 hs1 hs2
   go_wp2_with fail
   refine (ae MB).mono ?_
   rintro e w5 ⟨v5,rfl,hf5,hb5⟩
   obtain⟨x5,y5,p5,rfl,-⟩:=id hf5.agg
   generalize decide (EW.num<0)=s5 at *
   obtain⟨V1,hV1⟩:∃ V1,V1=w5.alloc (.cells #[.bool s4,.int .u64 x4,.int .u64 y4,.pointer p4] 27):=⟨_,rfl⟩
   obtain⟨V2,hV2⟩:∃ V2,V2=V1.alloc (.cells #[.bool s5,.int .u64 x5,.int .u64 y5,.pointer p5] 27):=⟨_,rfl⟩
   have sV1:V1.heap.size=w5.heap.size+1:=by rw[hV1];simp
   have bV1:But [] w5 V1:=by rw[hV1];exact (But.refl _ _).alloc _
   have bV2:But [] V1 V2:=by rw[hV2];exact (But.refl _ _).alloc _
   have bs:=hb5.trans' (bV1.trans' bV2)
   have Y9:Hid (bh V2 w5.heap.size EA):=by
    have h:=bh.new w5 s4 x4 y4 p4 EA 27 ((ae F4).but hb5)
    rw[← hV1] at h
    exact h.but bV2
   have Y10:Hid (bh V2 (w5.heap.size+1) EW):=by
    show bh V2 (w5.heap.size+1) EW
    rw[hV2,← sV1]
    exact bh.new V1 s5 x5 y5 p5 EW 27 (hf5.but bV1)
   have R15:=af ((ae R14).but bs hs14)
   have X35:=af ((ae X34).but bs (by simp) (by simp))
   have B5:=af ((ae B4).trans' bs)
   have hs15:=Nat.lt_of_lt_of_le hs14 bs.size
   clear hb5 hf5 MB R14 X34 B4 F4 hs14 bs bV1 bV2
   go_wp2
   rw[← hV1,← hV2]
   clear hV1 hV2 sV1
   generalize w5.heap.size+1=g10 at *
   generalize w5.heap.size=g9 at *
   obtain⟨⟨t10,a10,b10,q10,k10,f10⟩,-⟩:=ae Y10
   obtain⟨a0,c0,hc0⟩:=ae hcell
   refine zxb 11 _ _ V2 V2.heap.size b off k cap a0 m c0 t10 a10 b10 q10 EW (by simp) g10 (Nat.le_refl _) (by simp[Act.eval]) (by simp[Act.eval]) (by omega) (by omega) k10 ((ae B5).ag hc0 (by simp)) (fun W hb=>by rw[← ae HED];exact ae QUO W _ (f10.but hb)) ?_
   intro w6 g11 s6 x6 y6 p6 hb6 hg11 hp6 hz6 hf6
   simp only[bk,List.foldl_cons,List.foldl_nil,Act.put,List.setIfInBounds_toArray,List.set_cons_zero,List.set_cons_succ]
   rw[← ae HED] at hf6
   have hP6:=ay w6 g11 s6 x6 y6 p6
   have y11:bh (zy w6 g11 s6 x6 y6 p6) g11 ED:=bh.put (f:=0) ⟨⟨false,0,0,none,hp6,jb _⟩,hz6⟩ hf6
   have hbo:∀ g ∈ [g11],∃ s,w6.cell? ⟨g,0,none⟩=some (.bool s):=fun g hg=>by simp at hg;subst hg;exact⟨_,hp6.1⟩
   have ltV:g4<V2.heap.size∧g9<V2.heap.size∧g10<V2.heap.size:=⟨(ae X35).lt (by simp),(ae Y9).lt,(ae Y10).lt⟩
   have hwV:=(ae B5).size
   have B6:=af (((ae B5).trans' hb6).trans hP6 (fun x hx=>by simp at hx;subst hx;exact .inr (by omega)))
   have r16:=(ae R15).but hb6 hs15
   have R16:Hid (je (zy w6 g11 s6 x6 y6 p6) g1 k FM):=⟨fun j hj=>(r16.told j hj).beside hP6 (by simp;omega) hbo,fun o=>(zli _ _ _ _ _ _ _ _).trans (r16.loose o)⟩
   have X36:=af (((ae X35).but hb6 (by simp) (by simp)).but hP6 (by simp;omega) (by simp))
   have Y96:=af (((ae Y9).but hb6).beside hP6 (by simp;omega) hbo)
   have Y106:=af (((ae Y10).but hb6).beside hP6 (by simp;omega) hbo)
   have Y11:=af y11
   have hs16:g1<(zy w6 g11 s6 x6 y6 p6).heap.size:=Nat.lt_of_lt_of_le (Nat.lt_of_lt_of_le hs15 hb6.size) hP6.size
   generalize zy w6 g11 s6 x6 y6 p6=V6 at *
   clear hP6 y11 hbo hb6 hg11 hp6 hz6 hf6 R15 X35 Y9 Y10 B5 k10 f10 ltV hwV r16 hs15 QUO
   go_wp2
   obtain⟨⟨t11,a11,b11,q11,k11,f11⟩,-⟩:=ae Y11
   refine zxa 12 _ _ V6 V6.heap.size (.slice (some ⟨g1,0,none⟩) k k) t11 a11 b11 q11 ED SR (by simp) g11 (Nat.le_refl _) (by simp[Act.eval]) (by simp[Act.eval]) k11 (fun W hb=>ae SPR W g1 ((ae R16).but hb hs16)) (fun W hb v hv=>ae SUB W _ _ hv (f11.but hb)) (fun W hb v hv=>qdh v _ W hv) ?_
   intro w7 g12 v1' v3' s7 x7 y7 p7 hb7 hg12 hp7 hz7 hf7
   simp only[bk,List.foldl_cons,List.foldl_nil,Act.put,List.setIfInBounds_toArray,List.set_cons_zero,List.set_cons_succ]
   rw[← ae HEB] at hf7
   have hP7:=ay w7 g12 s7 x7 y7 p7
   have y12:bh (zy w7 g12 s7 x7 y7 p7) g12 EB:=bh.put (f:=0) ⟨⟨false,0,0,none,hp7,jb _⟩,hz7⟩ hf7
   have hbo:∀ g ∈ [g12],∃ s,w7.cell? ⟨g,0,none⟩=some (.bool s):=fun g hg=>by simp at hg;subst hg;exact⟨_,hp7.1⟩
   have ltV:g4<V6.heap.size∧g9<V6.heap.size∧g10<V6.heap.size∧g11<V6.heap.size:=⟨(ae X36).lt (by simp),(ae Y96).lt,(ae Y106).lt,(ae Y11).lt⟩
   have hwV:=(ae B6).size
   have B7:=af (((ae B6).trans' hb7).trans hP7 (fun x hx=>by simp at hx;subst hx;exact .inr (by omega)))
   have r17:=(ae R16).but hb7 hs16
   have R17:Hid (je (zy w7 g12 s7 x7 y7 p7) g1 k FM):=⟨fun j hj=>(r17.told j hj).beside hP7 (by simp;omega) hbo,fun o=>(zli _ _ _ _ _ _ _ _).trans (r17.loose o)⟩
   have X37:=af (((ae X36).but hb7 (by simp) (by simp)).but hP7 (by simp;omega) (by simp))
   have Y97:=af (((ae Y96).but hb7).beside hP7 (by simp;omega) hbo)
   have Y107:=af (((ae Y106).but hb7).beside hP7 (by simp;omega) hbo)
   have Y117:=af (((ae Y11).but hb7).beside hP7 (by simp;omega) hbo)
   have Y12:=af y12
   have hs17:g1<(zy w7 g12 s7 x7 y7 p7).heap.size:=Nat.lt_of_lt_of_le (Nat.lt_of_lt_of_le hs16 hb7.size) hP7.size
   generalize zy w7 g12 s7 x7 y7 p7=V7 at *
   clear hP7 y12 hbo hb7 hg12 hp7 hz7 hf7 R16 X36 Y96 Y106 Y11 B6 k11 f11 ltV hwV r17 hs16 SPR SUB
   obtain⟨⟨t11,a11,b11,q11,⟨j0,j1,j2,j3⟩,f11⟩,-⟩:=ae Y117
   obtain⟨⟨t12,a12,b12,q12,⟨i0,i1,i2,i3⟩,f12⟩,-⟩:=ae Y12
   have OW:=af (ae OWN V7 _ _ f12 f11)
   clear f11 f12 OWN
   go_wp2_with fail
   refine (ae OW).mono ?_
   rintro e w8 ⟨v8,rfl,hf8,hb8⟩
   obtain⟨x8,y8,p8,rfl,-⟩:=id hf8.agg
   generalize decide (EO.num<0)=s8 at *
   have bs:=hb8.trans' ((But.refl _ _).alloc (.cells #[.bool s8,.int .u64 x8,.int .u64 y8,.pointer p8] 27))
   have B8:=af ((ae B7).trans' bs)
   have R18:=af ((ae R17).but bs hs17)
   have X38:=af ((ae X37).but bs (by simp) (by simp))
   have Y98:=af ((ae Y97).but bs)
   have Y108:=af ((ae Y107).but bs)
   have Y128:=af ((ae Y12).but bs)
   have Y13:=af (bh.new w8 s8 x8 y8 p8 _ 27 hf8)
   have hs18:=Nat.lt_of_lt_of_le hs17 bs.size
   clear hb8 hf8 bs R17 X37 Y97 Y107 Y117 Y12 B7 OW j0 j1 j2 j3 i0 i1 i2 i3 hs17
   go_wp2
   generalize w8.heap.size=g13 at *
   generalize w8.alloc (.cells #[.bool s8,.int .u64 x8,.int .u64 y8,.pointer p8] 27)=V8 at *
   obtain⟨⟨t9,a9,b9,q9,k9,f9⟩,-⟩:=ae Y98
   obtain⟨⟨t10,a10,b10,q10,k10,f10⟩,-⟩:=ae Y108
   obtain⟨⟨t12,a12,b12,q12,k12,f12⟩,-⟩:=ae Y128
   obtain⟨⟨t13,a13,b13,q13,k13,f13⟩,-⟩:=ae Y13
   refine zwz 14 _ _ V8 V8.heap.size (.slice (some ⟨g1,0,none⟩) k k) k PF t9 a9 b9 q9 t10 a10 b10 q10 t12 a12 b12 q12 t13 a13 b13 q13 EA EW EB EO g4 g9 g10 g12 g13 (by simp) (by simp[Act.eval]) (ae X38) rfl (by simp[Act.eval]) (by simp[Act.eval]) (by simp[Act.eval]) (by simp[Act.eval]) (by simp[Act.eval]) k9 k10 k12 k13 f9 f10 f12 f13 (fun W hb=>(ae PRE W g1 _ _ ((ae R18).but hb hs18) (f9.but hb) (f13.but hb)).mono (fun e w' h=>by
    obtain⟨g,e1,h1,h2,h3,h4⟩:=h
    exact⟨_,e1,⟨g,rfl,h1,Nat.le_trans hb.size h2,h3⟩,h4⟩)) ?_
   intro w9 z0 z1 z2 z3 z7 e1 e2 e3 e4 e5 e6 e7 e8 e9 e10 e11 e12 e13 e14 e15 e16 gr hb9 h1 h2 h3 h4 hr hgr hgl
   simp only[bk,List.foldl_cons,List.foldl_nil,Act.put,List.setIfInBounds_toArray,List.set_cons_zero,List.set_cons_succ]
   have X39:=(ae X38).but hb9 (by simp) (by simp)
   have g48:=(ae X38).lt (by simp)
   have hwV:=(ae B8).size
   have hS:=br w9 g4 [.bool e1,.int .u64 e2,.int .u64 e3,.pointer e4,.bool e5,.int .u64 e6,.int .u64 e7,.pointer e8,.bool e9,.int .u64 e10,.int .u64 e11,.pointer e12,.bool e13,.int .u64 e14,.int .u64 e15,.pointer e16,.slice (some ⟨gr,0,none⟩) k k] 0
   have P:=X39.put (us:=[.bool e1,.int .u64 e2,.int .u64 e3,.pointer e4,.bool e5,.int .u64 e6,.int .u64 e7,.pointer e8,.bool e9,.int .u64 e10,.int .u64 e11,.pointer e12,.bool e13,.int .u64 e14,.int .u64 e15,.pointer e16,.slice (some ⟨gr,0,none⟩) k k]) rfl
   have m0:=P.cells 0 _ rfl
   have m1:=P.cells 1 _ rfl
   have m2:=P.cells 2 _ rfl
   have m3:=P.cells 3 _ rfl
   have m4:=P.cells 4 _ rfl
   have m5:=P.cells 5 _ rfl
   have m6:=P.cells 6 _ rfl
   have m7:=P.cells 7 _ rfl
   have m8:=P.cells 8 _ rfl
   have m9:=P.cells 9 _ rfl
   have m10:=P.cells 10 _ rfl
   have m11:=P.cells 11 _ rfl
   have m12:=P.cells 12 _ rfl
   have m13:=P.cells 13 _ rfl
   have m14:=P.cells 14 _ rfl
   have m15:=P.cells 15 _ rfl
   have m16:=P.cells 16 _ rfl
   have c0':=X39.cells 0 _ rfl
   have hbo:∀ g ∈ [g4],∃ s,w9.cell? ⟨g,0,none⟩=some (.bool s):=fun g hg=>by simp at hg;subst hg;exact⟨_,c0'⟩
   have hF:But [] w (w9.setCells g4 0 [.bool e1,.int .u64 e2,.int .u64 e3,.pointer e4,.bool e5,.int .u64 e6,.int .u64 e7,.pointer e8,.bool e9,.int .u64 e10,.int .u64 e11,.pointer e12,.bool e13,.int .u64 e14,.int .u64 e15,.pointer e16,.slice (some ⟨gr,0,none⟩) k k]):=((ae B8).trans' hb9).trans hS (fun x hx=>by simp at hx;subst hx;exact .inr (by omega))
   have h1':=h1.over c0' hS
   have h2':=h2.over c0' hS
   have h3':=h3.over c0' hS
   have h4':=h4.over c0' hS
   have hr':je (w9.setCells g4 0 [.bool e1,.int .u64 e2,.int .u64 e3,.pointer e4,.bool e5,.int .u64 e6,.int .u64 e7,.pointer e8,.bool e9,.int .u64 e10,.int .u64 e11,.pointer e12,.bool e13,.int .u64 e14,.int .u64 e15,.pointer e16,.slice (some ⟨gr,0,none⟩) k k]) gr k PF:=⟨fun j hj=>(hr.told j hj).beside hS (by simp;omega) hbo,fun o=>by rw[World.frozen?_setCells];exact hr.loose o⟩
   have hgl':=Nat.lt_of_lt_of_le hgl hS.size
   generalize w9.setCells g4 0 [.bool e1,.int .u64 e2,.int .u64 e3,.pointer e4,.bool e5,.int .u64 e6,.int .u64 e7,.pointer e8,.bool e9,.int .u64 e10,.int .u64 e11,.pointer e12,.bool e13,.int .u64 e14,.int .u64 e15,.pointer e16,.slice (some ⟨gr,0,none⟩) k k]=F at *
   clear P X39 hS c0' hbo h1 h2 h3 h4 hr hb9 k9 k10 k12 k13 f9 f10 f12 f13
   go_wp2
   exact bodyPost_ret (v:=.tuple #[.agg #[.bool e1,.int .u64 e2,.int .u64 e3,.pointer e4,.bool e5,.int .u64 e6,.int .u64 e7,.pointer e8,.bool e9,.int .u64 e10,.int .u64 e11,.pointer e12,.bool e13,.int .u64 e14,.int .u64 e15,.pointer e16,.slice (some ⟨gr,0,none⟩) k k],.nilIface]) (by simp[results,results21,go_sem,m0,m1,m2,m3,m4,m5,m6,m7,m8,m9,m10,m11,m12,m13,m14,m15,m16]) rfl ⟨_,rfl,⟨e1,e2,e3,e4,e5,e6,e7,e8,e9,e10,e11,e12,e13,e14,e15,e16,gr,rfl,h1',h2',h3',h4',hr',by omega,hgl'⟩,hF⟩
theorem zwy (q:Option Addr) (n cap:Nat) (ls:List (List Rat)) (w:World) (hv:wu w (.slice q n cap) ls) (hN:n=ls.length) (hn:n≤1000) (hl:∀ i,i<n→(ls[i]?.getD []).length≤1000) (hk:zle ls≠0) :
  Calls prog 21 #[.slice q n cap] w fun e w'=>e=.returned (.tuple #[.agg #[.bool false,.int .u64 0,.int .u64 0,.pointer none,.bool false,.int .u64 0,.int .u64 0,.pointer none,.bool false,.int .u64 0,.int .u64 0,.pointer none,.bool false,.int .u64 0,.int .u64 0,.pointer none,.slice none 0 0],.iface 33 (.int .i64 (zle ls))])∧But [] w w':=by
 have CK:=af (fun W (h:But [] w W)=>zjx q n cap ls W (hv.but h) hN hn hl)
 generalize zle ls=ce at *
 have x4:xg (w.alloc (.cells #[.bool false,.int .u64 0,.int .u64 0,.pointer none,.bool false,.int .u64 0,.int .u64 0,.pointer none,.bool false,.int .u64 0,.int .u64 0,.pointer none,.bool false,.int .u64 0,.int .u64 0,.pointer none,.slice none 0 0] 64)) w.heap.size [.bool false,.int .u64 0,.int .u64 0,.pointer none,.bool false,.int .u64 0,.int .u64 0,.pointer none,.bool false,.int .u64 0,.int .u64 0,.pointer none,.bool false,.int .u64 0,.int .u64 0,.pointer none,.slice none 0 0]:=xg.new w _ _
 have bA:But [] w (w.alloc (.cells #[.bool false,.int .u64 0,.int .u64 0,.pointer none,.bool false,.int .u64 0,.int .u64 0,.pointer none,.bool false,.int .u64 0,.int .u64 0,.pointer none,.bool false,.int .u64 0,.int .u64 0,.pointer none,.slice none 0 0] 64)):=(But.refl _ _).alloc _
 have X4:=af x4
 have BA:=af bA
 have Q2:Hid (w.heap.size≤w.heap.size):=Nat.le_refl _
 clear x4 bA hv hN hl
 go_enter func21,ntmps21
 go_wp2_with fail
 refine (ae CK _ (ae BA)).mono ?_
 rintro e w1 ⟨rfl,hb1⟩
 have B1:=af ((ae BA).trans' hb1)
 have X41:=af ((ae X4).but hb1 (by simp) (by simp))
 clear hb1 X4 BA CK
 unfold zmf
 rw[if_neg hk]
 generalize hg4:w.heap.size=g4 at *
 obtain⟨u0,c0⟩:=(ae X41).some 0 (by simp)
 obtain⟨u1,c1⟩:=(ae X41).some 1 (by simp)
 obtain⟨u2,c2⟩:=(ae X41).some 2 (by simp)
 obtain⟨u3,c3⟩:=(ae X41).some 3 (by simp)
 obtain⟨u4,c4⟩:=(ae X41).some 4 (by simp)
 obtain⟨u5,c5⟩:=(ae X41).some 5 (by simp)
 obtain⟨u6,c6⟩:=(ae X41).some 6 (by simp)
 obtain⟨u7,c7⟩:=(ae X41).some 7 (by simp)
 obtain⟨u8,c8⟩:=(ae X41).some 8 (by simp)
 obtain⟨u9,c9⟩:=(ae X41).some 9 (by simp)
 obtain⟨u10,c10⟩:=(ae X41).some 10 (by simp)
 obtain⟨u11,c11⟩:=(ae X41).some 11 (by simp)
 obtain⟨u12,c12⟩:=(ae X41).some 12 (by simp)
 obtain⟨u13,c13⟩:=(ae X41).some 13 (by simp)
 obtain⟨u14,c14⟩:=(ae X41).some 14 (by simp)
 obtain⟨u15,c15⟩:=(ae X41).some 15 (by simp)
 obtain⟨u16,c16⟩:=(ae X41).some 16 (by simp)
 have fz:=(ae X41).loose
 go_wp2
 have hS:=br w1 g4 [.bool false,.int .u64 0,.int .u64 0,.pointer none,.bool false,.int .u64 0,.int .u64 0,.pointer none,.bool false,.int .u64 0,.int .u64 0,.pointer none,.bool false,.int .u64 0,.int .u64 0,.pointer none,.slice none 0 0] 0
 have P:=(ae X41).put (us:=[.bool false,.int .u64 0,.int .u64 0,.pointer none,.bool false,.int .u64 0,.int .u64 0,.pointer none,.bool false,.int .u64 0,.int .u64 0,.pointer none,.bool false,.int .u64 0,.int .u64 0,.pointer none,.slice none 0 0]) rfl
 have m0:=P.cells 0 _ rfl
 have m1:=P.cells 1 _ rfl
 have m2:=P.cells 2 _ rfl
 have m3:=P.cells 3 _ rfl
 have m4:=P.cells 4 _ rfl
 have m5:=P.cells 5 _ rfl
 have m6:=P.cells 6 _ rfl
 have m7:=P.cells 7 _ rfl
 have m8:=P.cells 8 _ rfl
 have m9:=P.cells 9 _ rfl
 have m10:=P.cells 10 _ rfl
 have m11:=P.cells 11 _ rfl
 have m12:=P.cells 12 _ rfl
 have m13:=P.cells 13 _ rfl
 have m14:=P.cells 14 _ rfl
 have m15:=P.cells 15 _ rfl
 have m16:=P.cells 16 _ rfl
 have hF:But [] w (w1.setCells g4 0 [.bool false,.int .u64 0,.int .u64 0,.pointer none,.bool false,.int .u64 0,.int .u64 0,.pointer none,.bool false,.int .u64 0,.int .u64 0,.pointer none,.bool false,.int .u64 0,.int .u64 0,.pointer none,.slice none 0 0]):=(ae B1).trans hS (fun x hx=>by simp at hx;subst hx;exact .inr (by omega))
 change bodyPost _ _ _ _ _ (w1.setCells g4 0 [.bool false,.int .u64 0,.int .u64 0,.pointer none,.bool false,.int .u64 0,.int .u64 0,.pointer none,.bool false,.int .u64 0,.int .u64 0,.pointer none,.bool false,.int .u64 0,.int .u64 0,.pointer none,.slice none 0 0])
 generalize w1.setCells g4 0 [.bool false,.int .u64 0,.int .u64 0,.pointer none,.bool false,.int .u64 0,.int .u64 0,.pointer none,.bool false,.int .u64 0,.int .u64 0,.pointer none,.bool false,.int .u64 0,.int .u64 0,.pointer none,.slice none 0 0]=F at *
 exact bodyPost_ret (v:=.tuple #[.agg #[.bool false,.int .u64 0,.int .u64 0,.pointer none,.bool false,.int .u64 0,.int .u64 0,.pointer none,.bool false,.int .u64 0,.int .u64 0,.pointer none,.bool false,.int .u64 0,.int .u64 0,.pointer none,.slice none 0 0],.iface 33 (.int .i64 ce)]) (by simp[results,results21,go_sem,m0,m1,m2,m3,m4,m5,m6,m7,m8,m9,m10,m11,m12,m13,m14,m15,m16]) rfl ⟨rfl,hF⟩
theorem zrz {x:Rat} (h:0≤x):0≤x⁻¹:=by
 by_cases e:x=0
 ·rw[e,Rat.inv_zero];exact Rat.le_refl
 ·exact Rat.le_of_lt (Rat.inv_pos.2 (Rat.lt_of_le_of_ne h (Ne.symm e)))
theorem zna (b d:Rat) (hb:0≤b) (hd:0≤d):(b=0→zaz b d=0)∧(b≠0→zaz b d*(b+d)=b)∧(b.num≠0→(b+d).num≠0):=by
 have hn:b≠0→b+d≠0:=fun h e=>h (by grind)
 refine⟨fun h=>by unfold zaz;rw[h];rfl,fun h=>?_,fun h e=>?_⟩
 ·unfold zaz
  rw[if_neg (fun e=>h (Rat.num_eq_zero.1 e)),Rat.div_mul_cancel (hn h)]
 ·exact hn (fun e2=>h (by rw[e2];rfl)) (Rat.num_eq_zero.1 e)
theorem zmc {n:Nat} (h:0<n):0<(((n:Nat):Int):Rat):=by
 have:((0:Int):Rat)<(((n:Nat):Int):Rat):=Rat.intCast_lt_intCast.2 (by omega)
 exact this
theorem qke (c:Rat):∀ k:Nat,sgR (fun _=>c) k=(((k:Nat):Int):Rat)*c
 | 0=>by
  rw[show (((0:Nat):Int):Rat)=0 from rfl,Rat.zero_mul];rfl
 | k+1=>by
  show sgR (fun _=>c) k+c=_
  rw[qke c k,Int.natCast_add,Rat.intCast_add,Rat.add_mul,show (((1:Nat):Int):Rat)=1 from rfl,Rat.one_mul]
theorem qgd (f:Nat→Rat) (n:Nat) (hn:2≤n):0≤spR f n:=by
 have hp:0<(((n:Nat):Int):Rat):=zmc (by omega)
 have hp1:0<(((n-1:Nat):Int):Rat):=zmc (by omega)
 generalize hN:(((n:Nat):Int):Rat)=N at hp
 have hne:N≠0:=fun e=>by rw[e] at hp;exact absurd hp (by decide)
 have h0:=zka (fun _=>N⁻¹) f n (fun _ _=>zrz (Rat.le_of_lt hp)) (by rw[qke,hN,Rat.mul_inv_cancel _ hne])
 have e1:sgR (fun j=>N⁻¹*(f j*f j)) n=sgR (fun j=>f j*f j) n*N⁻¹:=by
  rw[← zah]
  exact yo _ _ _ (fun k _=>Rat.mul_comm _ _)
 have e2:sgR (fun j=>N⁻¹*f j) n=sgR f n*N⁻¹:=by
  rw[← zah]
  exact yo _ _ _ (fun k _=>Rat.mul_comm _ _)
 rw[e1,e2] at h0
 have h1:=Rat.mul_nonneg h0 (Rat.le_of_lt hp)
 unfold spR
 rw[hN,Rat.div_def (_-_)]
 refine Rat.mul_nonneg ?_ (zrz (Rat.le_of_lt hp1))
 rw[Rat.div_def]
 have hi:N⁻¹*N=1:=Rat.inv_mul_cancel _ hne
 generalize N⁻¹=I at *
 generalize sgR (fun j=>f j*f j) n=S2 at *
 generalize sgR f n=S1 at *
 have:(S2*I-S1*I*(S1*I))*N=S2-S1*I*S1:=by grind
 rwa [this] at h1
theorem zsh {a b:Rat} (ha:0≤a) (hb:0≤b):0≤a/b:=by
 rw[Rat.div_def]
 exact Rat.mul_nonneg ha (zrz hb)
theorem qbo (ls:List (List Rat)) (m n:Nat) (hm:2≤m) (hn:2≤n):0≤esB ls m n∧0≤esD ls m n∧((esB ls m n).num≠0→(esB ls m n+esD ls m n).num≠0)∧sgR (esP ls m n) n=esA ls m n*(((n:Nat):Int):Rat):=by
 have h1:0≤esB ls m n:=by
  unfold esB zha
  split
  ·assumption
  ·exact Rat.le_refl
 have h2:0≤esD ls m n:=zsh (zsh (zep _ _ (fun i _=>qgd _ _ hm)) (Rat.le_of_lt (zmc (by omega)))) (Rat.le_of_lt (zmc (by omega)))
 have hp:=zmc (n:=n) (by omega)
 refine⟨h1,h2,(zna _ _ h1 h2).2.2,zti (rmR ls m) n (esA ls m n) (esO ls m n) (by omega) (Rat.div_mul_cancel (fun e=>by rw[e] at hp;exact absurd hp (by decide)))⟩
theorem qew (x:Nat→Rat) (a o:Rat):∀ k:Nat,sgR (fun j=>a+o*(x j-a)) k=(((k:Nat):Int):Rat)*a+o*(sgR x k-(((k:Nat):Int):Rat)*a)
 | 0=>by
  rw[show (((0:Nat):Int):Rat)=0 from rfl,Rat.zero_mul]
  show (0:Rat)=0+o*(0-0)
  grind
 | k+1=>by
  show sgR (fun j=>a+o*(x j-a)) k+(a+o*(x k-a))=_
  rw[qew x a o k,Int.natCast_add,Rat.intCast_add,show (((1:Nat):Int):Rat)=1 from rfl]
  show _=_+o*((sgR x k+x k)-_)
  grind
theorem qzx (ls:List (List Rat)) (m n:Nat) (hm:2≤m) (hm2:m≤40) (hn:2≤n) (hn2:n≤40) (lf:∀ i j,i<n→j<m→Len (atR (ls[i]?.getD []) j) 1):Len (esA ls m n) 3322∧(∀ j,j<n→Len (esP ls m n j) 100000)∧∀ k,k≤n→Len (sgR (esP ls m n) k) 100000:=by
 have hr:∀ i,i<n→Len (rmR ls m i) 82:=fun i hi=>(yw _ m 1 hm hm2 (fun j hj=>lf i j hi hj)).1
 have hs:∀ i,i<n→Len (rsR ls m i) 330:=fun i hi=>(yw _ m 1 hm hm2 (fun j hj=>lf i j hi hj)).2.1
 obtain⟨lA,lS,lK,-⟩:=yw (rmR ls m) n 82 hn hn2 hr
 have lW:=(yw (rsR ls m) n 330 hn hn2 hs).1
 have nm:(((m:Nat):Int):Rat).num≠0:=by rw[(bp (m:Int)).1];omega
 have lD:Len (esD ls m n) 13243:=ru lW (kr (m:Int) (by omega)) nm _ (by omega)
 have lB:Len (esB ls m n) 26534:=zma (fe lS lD _ (by omega)) (by omega)
 have lO:Len (esO ls m n) 66312:=zpo lB lD (qbo ls m n hm hn).2.2.1 _ (by omega)
 refine⟨lA.mono (by omega),fun j hj=>?_,fun k hk=>?_⟩
 ·exact mi lA (jd lO (fe (hr j hj) lA 3405 (by omega)) 69717 (by omega)) _ (by omega)
 ·have e:sgR (esP ls m n) k=_:=qew (rmR ls m) (esA ls m n) (esO ls m n) k
  rw[e]
  have lk:Len ((((k:Nat):Int):Rat)*esA ls m n) 3323:=jd (kr (k:Int) (by omega)) lA _ (by omega)
  exact mi lk (jd lO (fe (lK k hk) lk 6645 (by omega)) 72957 (by omega)) _ (by omega)
end Go.Proofs.YtffghofheeleeaaGreatDoor
