/- Who bears what of all claims: plainly, a -/
import Derived.Test.YtcgecpoedojhjaaGreatDoorKPAQ
import Derived.Test.YtcgecpoedojhjaaGreatDoorKPQ4
namespace Go.Proofs.YtcgecpoedojhjaaGreatDoor
open Go.Proofs.Tryz
open Go.RowKit
set_option maxHeartbeats 8000000
set_option maxRecDepth 100000
def clA (cs:List (Int × Int)) (j:Nat):Int × Int:=cs.getD j (1,0)
theorem zrd {cs:List (Int × Int)} {k:Nat} (h:k<cs.length):cs[k]? = some (clA cs k)∧clA cs k ∈ cs:=by
 have e:clA cs k=cs[k]:=by simp[clA,List.getD_eq_getElem?_getD,List.getElem?_eq_getElem h]
 exact⟨by rw[e];exact List.getElem?_eq_getElem h,by rw[e];exact List.getElem_mem h⟩
def bsJ (ls:List Ln) (cs:List (Int × Int)):Nat→Nat→Int
 | 0=>fun _=>0
 | j+1=>fun i=>bsJ ls cs j i+ssF ls (clA cs j).1 (clA cs j).2 (bsJ ls cs j) i
def SJ (ls:List Ln) (cs:List (Int × Int)) (j:Nat):Nat→Int:=ssF ls (clA cs j).1 (clA cs j).2 (bsJ ls cs j)
def LJ (ls:List Ln) (cs:List (Int × Int)) (n j:Nat):Int:=lfF ls (clA cs j).1 (clA cs j).2 (bsJ ls cs j) n
def ntJ (ls:List Ln) (cs:List (Int × Int)) (n:Nat):Nat→Int
 | 0=>0
 | j+1=>ntJ ls cs n j+LJ ls cs n j
theorem zwp (ls:List Ln) (cs:List (Int × Int)) (n:Nat) (hn:n=ls.length) (hok:∀ l ∈ ls,di l) (hcs:∀ q ∈ cs,zrm q):∀ j,j≤cs.length→qjg ls (bsJ ls cs j) n ((j:Int)*1000000000000)
 | 0,_=>fun i hi=>⟨Int.le_refl _,by simp[bsJ],fun h=>by
   obtain⟨-,-,⟨-,r2,-,r4⟩,-⟩:=hok _ (zei (ls:=ls) (k:=i) (by omega)).2
   have:=Int.mul_nonneg r2.1 (show 0≤(lnA ls i).ti+1 by omega)
   exact this⟩
 | j+1,hj=>fun i hi=>by
  have ih:=zwp ls cs n hn hok hcs j (by omega)
  obtain⟨q1,q2,q3,q4⟩:=hcs _ (zrd (cs:=cs) (k:=j) (by omega)).2
  obtain⟨a0,a1,a2⟩:=zoq ls (clA cs j).1 (clA cs j).2 (bsJ ls cs j) n _ hn hok q1 q3 ih i hi
  obtain⟨b0,b1,b2⟩:=ih i hi
  have e:bsJ ls cs (j+1) i=bsJ ls cs j i+ssF ls (clA cs j).1 (clA cs j).2 (bsJ ls cs j) i:=rfl
  rw[e]
  have em:((j+1:Nat):Int)*1000000000000=(j:Int)*1000000000000+1000000000000:=by omega
  rw[em]
  exact⟨by omega,by omega,fun h=>(a2 h).2⟩
theorem zuk (ls:List Ln) (cs:List (Int × Int)) (n:Nat) (hn:n=ls.length) (hok:∀ l ∈ ls,di l) (hcs:∀ q ∈ cs,zrm q) (j:Nat) (hj:j<cs.length):0≤LJ ls cs n j∧LJ ls cs n j≤1000000000000:=by
 obtain⟨q1,q2,q3,q4⟩:=hcs _ (zrd (cs:=cs) (k:=j) (by omega)).2
 obtain⟨a0,a1⟩:=zej ls (clA cs j).1 (clA cs j).2 (bsJ ls cs j) n _ hn hok q1 q3 (zwp ls cs n hn hok hcs j (by omega)) n (Nat.le_refl _)
 exact⟨a0,by unfold LJ;omega⟩
theorem zgv (ls:List Ln) (cs:List (Int × Int)) (n:Nat) (hn:n=ls.length) (hok:∀ l ∈ ls,di l) (hcs:∀ q ∈ cs,zrm q):∀ j,j≤cs.length→0≤ntJ ls cs n j∧ntJ ls cs n j≤(j:Int)*1000000000000
 | 0,_=>⟨Int.le_refl _,by simp[ntJ]⟩
 | j+1,hj=>by
  obtain⟨a0,a1⟩:=zgv ls cs n hn hok hcs j (by omega)
  obtain⟨b0,b1⟩:=zuk ls cs n hn hok hcs j (by omega)
  have e:ntJ ls cs n (j+1)=ntJ ls cs n j+LJ ls cs n j:=rfl
  have em:((j+1:Nat):Int)*1000000000000=(j:Int)*1000000000000+1000000000000:=by omega
  rw[e,em]
  omega
def stI (l:Ln) (nt:Int):Int:=if l.kd=4 then abI l.fr l.li nt else 0
def ntK (ls:List Ln) (N:Int):Nat→Int
 | 0=>N
 | k+1=>ntK ls N k-stI (lnA ls k) (ntK ls N k)
def spK (ls:List Ln) (N:Int) (k:Nat):Int:=stI (lnA ls k) (ntK ls N k)
theorem zyk (l:Ln) (nt:Int) (hok:di l) (h:0≤nt):0≤stI l nt∧stI l nt≤nt:=by
 obtain⟨-,-,⟨r1,r2,r3,r4⟩,-⟩:=hok
 unfold stI abI
 split <;> omega
theorem zoy (ls:List Ln) (N:Int) (n:Nat) (hn:n=ls.length) (hok:∀ l ∈ ls,di l) (h:0≤N):∀ k,k≤n→0≤ntK ls N k∧ntK ls N k≤N
 | 0,_=>⟨h,Int.le_refl _⟩
 | k+1,hk=>by
  obtain⟨a0,a1⟩:=zoy ls N n hn hok h k (by omega)
  obtain⟨b0,b1⟩:=zyk (lnA ls k) (ntK ls N k) (hok _ (zei (by omega)).2) a0
  have e:ntK ls N (k+1)=ntK ls N k-stI (lnA ls k) (ntK ls N k):=rfl
  rw[e]
  omega
structure AG (w:World) (hi gC gS gP g8 gb g4 n nc kk:Nat) (Sf:Nat→Nat→Int) (V:Nat→Value) (F Sp Pm B:Nat→Int) (l:Int) (wr:World):Prop where
 fr:But [] w wr
 pc:zjk wr gC nc V F
 sr:∀ j,j<kk→∃ sh,V j=.slice (some ⟨sh,0,none⟩) n n∧ah wr sh n (Sf j)∧hi≤sh
 st:ah wr gS n Sp
 pm:ah wr gP n Pm
 bo:ah wr gb n B
 c0:wr.cell? ⟨g8,0,none⟩=some (.slice (some ⟨gC,0,none⟩) nc nc)
 c1:wr.cell? ⟨g8,1,none⟩=some (.slice (some ⟨gS,0,none⟩) n n)
 c2:wr.cell? ⟨g8,2,none⟩=some (.slice (some ⟨gP,0,none⟩) n n)
 c3:wr.cell? ⟨g8,3,none⟩=some (.int .i64 l)
 f8:∀ j,wr.frozen? ⟨g8,j,none⟩=false
 d0:wr.cell? ⟨g4,0,none⟩=some (.slice none 0 0)
 d1:wr.cell? ⟨g4,1,none⟩=some (.slice none 0 0)
 d2:wr.cell? ⟨g4,2,none⟩=some (.slice none 0 0)
 d3:wr.cell? ⟨g4,3,none⟩=some (.int .i64 0)
 f4:∀ j,wr.frozen? ⟨g4,j,none⟩=false
 nd:gC≠gS∧gC≠gP∧gC≠g8∧gC≠gb∧gC≠g4∧gS≠gP∧gS≠g8∧gS≠gb∧gS≠g4∧gP≠g8∧gP≠gb∧gP≠g4∧g8≠gb∧g8≠g4∧gb≠g4
 hil:gC<hi∧gS<hi∧gP<hi∧g8<hi∧gb<hi∧g4<hi
 old:w.heap.size≤gC∧w.heap.size≤gS∧w.heap.size≤gP∧w.heap.size≤g8∧w.heap.size≤gb∧w.heap.size≤g4
theorem AG.keep {w:World} {hi gC gS gP g8 gb g4 n nc kk:Nat} {Sf:Nat→Nat→Int} {V:Nat→Value} {F Sp Pm B:Nat→Int} {l:Int} {wr w1:World} (h:AG w hi gC gS gP g8 gb g4 n nc kk Sf V F Sp Pm B l wr) (g:Nat) (hg:g<hi∧w.heap.size≤g) (hb:But [g] wr w1)
  {V':Nat→Value} {F' Sp' Pm' B':Nat→Int} {l':Int} (eV:∀ j,j<kk→V' j=V j)
  (pc:g≠gC→V'=V∧F'=F) (pc':g=gC→zjk w1 gC nc V' F') (st:g≠gS→Sp'=Sp) (st':g=gS→ah w1 gS n Sp') (pm:g≠gP→Pm'=Pm) (pm':g=gP→ah w1 gP n Pm') (bo:g≠gb→B'=B) (bo':g=gb→ah w1 gb n B')
  (c:g=g8→w1.cell? ⟨g8,0,none⟩=some (.slice (some ⟨gC,0,none⟩) nc nc)∧w1.cell? ⟨g8,1,none⟩=some (.slice (some ⟨gS,0,none⟩) n n)∧w1.cell? ⟨g8,2,none⟩=some (.slice (some ⟨gP,0,none⟩) n n)∧w1.cell? ⟨g8,3,none⟩=some (.int .i64 l')∧∀ j,w1.frozen? ⟨g8,j,none⟩=false) (c':g≠g8→l'=l) (n4:g≠g4) :
  AG w hi gC gS gP g8 gb g4 n nc kk Sf V' F' Sp' Pm' B' l' w1:=by
 have at8:w1.cell? ⟨g8,0,none⟩=some (.slice (some ⟨gC,0,none⟩) nc nc)∧w1.cell? ⟨g8,1,none⟩=some (.slice (some ⟨gS,0,none⟩) n n)∧w1.cell? ⟨g8,2,none⟩=some (.slice (some ⟨gP,0,none⟩) n n)∧w1.cell? ⟨g8,3,none⟩=some (.int .i64 l')∧∀ j,w1.frozen? ⟨g8,j,none⟩=false:=by
  by_cases e:g=g8
  ·exact c e
  ·rw[c' e]
   have hn:g8 ∉ [g]:=by simpa using Ne.symm e
   exact⟨hb.zb h.c0 hn,hb.zb h.c1 hn,hb.zb h.c2 hn,hb.zb h.c3 hn,fun j=>(hb.frozen (p:=⟨g8,j,none⟩) (show g8<_ from lt_of_cell h.c0) hn).trans (h.f8 j)⟩
 have h4:g4 ∉ [g]:=by simpa using Ne.symm n4
 refine { fr:=h.fr.trans hb (fun x hx=>by simp at hx;subst hx;exact .inr hg.2),pc:=?_,sr:=fun j hj=>?_,st:=?_,pm:=?_,bo:=?_,c0:=at8.1,c1:=at8.2.1,c2:=at8.2.2.1,c3:=at8.2.2.2.1,f8:=at8.2.2.2.2,d0:=hb.zb h.d0 h4,d1:=hb.zb h.d1 h4,d2:=hb.zb h.d2 h4,d3:=hb.zb h.d3 h4,f4:=fun j=>(hb.frozen (p:=⟨g4,j,none⟩) (show g4<_ from lt_of_cell h.d0) h4).trans (h.f4 j),nd:=h.nd,hil:=h.hil,old:=h.old }
 ·by_cases e:g=gC
  ·exact pc' e
  ·rw[(pc e).1,(pc e).2];exact h.pc.but hb (by simpa using Ne.symm e)
 ·obtain⟨sh,e1,e2,e3⟩:=h.sr j hj
  exact⟨sh,by rw[eV j hj];exact e1,e2.but hb (by simp;omega),e3⟩
 ·by_cases e:g=gS
  ·exact st' e
  ·rw[st e];exact h.st.but hb (by simpa using Ne.symm e)
 ·by_cases e:g=gP
  ·exact pm' e
  ·rw[pm e];exact h.pm.but hb (by simpa using Ne.symm e)
 ·by_cases e:g=gb
  ·exact bo' e
  ·rw[bo e];exact h.bo.but hb (by simpa using Ne.symm e)
theorem AG.but {w:World} {hi gC gS gP g8 gb g4 n nc kk:Nat} {Sf:Nat→Nat→Int} {V:Nat→Value} {F Sp Pm B:Nat→Int} {l:Int} {wr w1:World} (h:AG w hi gC gS gP g8 gb g4 n nc kk Sf V F Sp Pm B l wr) (hb:But [] wr w1):AG w hi gC gS gP g8 gb g4 n nc kk Sf V F Sp Pm B l w1:=by
 have sr:∀ j,j<kk→∃ sh,V j=.slice (some ⟨sh,0,none⟩) n n∧ah w1 sh n (Sf j)∧hi≤sh:=fun j hj=>by
  obtain⟨sh,e1,e2,e3⟩:=h.sr j hj
  exact⟨sh,e1,e2.but hb (by simp),e3⟩
 exact { h with fr:=h.fr.trans' hb,pc:=h.pc.but hb (by simp),sr:=sr,st:=h.st.but hb (by simp),pm:=h.pm.but hb (by simp),bo:=h.bo.but hb (by simp),c0:=hb.zb h.c0 (by simp),c1:=hb.zb h.c1 (by simp),c2:=hb.zb h.c2 (by simp),c3:=hb.zb h.c3 (by simp),f8:=fun j=>(hb.frozen (p:=⟨g8,j,none⟩) (show g8<_ from lt_of_cell h.c0) (by simp)).trans (h.f8 j),d0:=hb.zb h.d0 (by simp),d1:=hb.zb h.d1 (by simp),d2:=hb.zb h.d2 (by simp),d3:=hb.zb h.d3 (by simp),f4:=fun j=>(hb.frozen (p:=⟨g4,j,none⟩) (show g4<_ from lt_of_cell h.d0) (by simp)).trans (h.f4 j) }
theorem AG.qpb {w:World} {hi gC gS gP g8 gb g4 n nc kk:Nat} {Sf:Nat→Nat→Int} {V:Nat→Value} {F Sp Pm B:Nat→Int} {l:Int} {wr:World} (h:AG w hi gC gS gP g8 gb g4 n nc kk Sf V F Sp Pm B l wr) (k:Nat) (hk:k<n) (z:Int):AG w hi gC gS gP g8 gb g4 n nc kk Sf V F (zcz Sp k z) Pm B l (wr.setCell ⟨gS,k,none⟩ (.int .i64 z)):=by
 obtain⟨n1,n2,n3,n4,n5,n6,n7,n8,n9,-⟩:=h.nd
 exact h.keep gS ⟨h.hil.2.1,h.old.2.1⟩ (ah.zch wr gS k z) (fun _ _=>rfl) (fun _=>⟨rfl,rfl⟩) (fun e=>absurd e.symm n1) (fun e=>absurd rfl e) (fun _=>h.st.put k hk z) (fun _=>rfl) (fun e=>absurd e n6) (fun _=>rfl) (fun e=>absurd e n8) (fun e=>absurd e n7) (fun _=>rfl) n9
theorem AG.quf {w:World} {hi gC gS gP g8 gb g4 n nc kk:Nat} {Sf:Nat→Nat→Int} {V:Nat→Value} {F Sp Pm B:Nat→Int} {l:Int} {wr:World} (h:AG w hi gC gS gP g8 gb g4 n nc kk Sf V F Sp Pm B l wr) (k:Nat) (hk:k<n) (z:Int):AG w hi gC gS gP g8 gb g4 n nc kk Sf V F Sp (zcz Pm k z) B l (wr.setCell ⟨gP,k,none⟩ (.int .i64 z)):=by
 obtain⟨n1,n2,n3,n4,n5,n6,n7,n8,n9,m1,m2,m3,-⟩:=h.nd
 exact h.keep gP ⟨h.hil.2.2.1,h.old.2.2.1⟩ (ah.zch wr gP k z) (fun _ _=>rfl) (fun _=>⟨rfl,rfl⟩) (fun e=>absurd e.symm n2) (fun _=>rfl) (fun e=>absurd e.symm n6) (fun e=>absurd rfl e) (fun _=>h.pm.put k hk z) (fun _=>rfl) (fun e=>absurd e m2) (fun e=>absurd e m1) (fun _=>rfl) m3
theorem AG.qhc {w:World} {hi gC gS gP g8 gb g4 n nc kk:Nat} {Sf:Nat→Nat→Int} {V:Nat→Value} {F Sp Pm B:Nat→Int} {l:Int} {wr:World} (h:AG w hi gC gS gP g8 gb g4 n nc kk Sf V F Sp Pm B l wr) (z:Int):AG w hi gC gS gP g8 gb g4 n nc kk Sf V F Sp Pm B z (wr.setCell ⟨g8,3,none⟩ (.int .i64 z)):=by
 obtain⟨n1,n2,n3,n4,n5,n6,n7,n8,n9,m1,m2,m3,m4,m5,m6⟩:=h.nd
 have out:∀ k v,k<3→wr.cell? ⟨g8,k,none⟩=some v→(wr.setCell ⟨g8,3,none⟩ (.int .i64 z)).cell? ⟨g8,k,none⟩=some v:=fun k v hk hv=>by
  rw[o9,World.cell?_setCells_out g8 _ _ _ _ (fun _ _=>by simp;omega)];exact hv
 exact h.keep g8 ⟨h.hil.2.2.2.1,h.old.2.2.2.1⟩ (ah.zch wr g8 3 z) (fun _ _=>rfl) (fun _=>⟨rfl,rfl⟩) (fun e=>absurd e.symm n3) (fun _=>rfl) (fun e=>absurd e.symm n7) (fun _=>rfl) (fun e=>absurd e.symm m1) (fun _=>rfl) (fun e=>absurd e m4)
  (fun _=>⟨out 0 _ (by omega) h.c0,out 1 _ (by omega) h.c1,out 2 _ (by omega) h.c2,World.cell?_setCell_same' _ _ _ (by rw[h.c3];rfl),fun j=>by rw[o9,World.frozen?_setCells];exact h.f8 j⟩) (fun e=>absurd rfl e) m5
theorem AG.claim {w:World} {hi gC gS gP g8 gb g4 n nc k:Nat} {Sf:Nat→Nat→Int} {V:Nat→Value} {F Sp Pm B:Nat→Int} {l:Int} {wr w1:World} (h:AG w hi gC gS gP g8 gb g4 n nc k Sf V F Sp Pm B l wr) (hk:k<nc) (hw:hi≤wr.heap.size) (hb:But [gb] wr w1) (sh:Nat) (B':Nat→Int) (hp:zng wr.heap.size w1 sh gb n (Sf k) B') (nt:Int) :
  AG w hi gC gS gP g8 gb g4 n nc (k+1) Sf (zrt V k (.slice (some ⟨sh,0,none⟩) n n)) (zcz F k nt) Sp Pm B' l (w1.setCells gC (k*2) [.slice (some ⟨sh,0,none⟩) n n,.int .i64 nt]):=by
 obtain⟨n1,n2,n3,n4,n5,n6,n7,n8,n9,m1,m2,m3,m4,m5,m6⟩:=h.nd
 have h1:=h.keep gb ⟨h.hil.2.2.2.2.1,h.old.2.2.2.2.1⟩ hb (V':=V) (F':=F) (Sp':=Sp) (Pm':=Pm) (B':=B') (l':=l) (fun _ _=>rfl) (fun _=>⟨rfl,rfl⟩) (fun e=>absurd e.symm n4) (fun _=>rfl) (fun e=>absurd e.symm n8) (fun _=>rfl) (fun e=>absurd e.symm m2) (fun e=>absurd rfl e) (fun _=>hp.borne) (fun e=>absurd e.symm m4) (fun _=>rfl) m6
 have hb2:=zy w1 gC [.slice (some ⟨sh,0,none⟩) n n,.int .i64 nt] (k*2)
 have h2:=h1.keep gC ⟨h.hil.1,h.old.1⟩ hb2 (V':=zrt V k (.slice (some ⟨sh,0,none⟩) n n)) (F':=zcz F k nt) (Sp':=Sp) (Pm':=Pm) (B':=B') (l':=l) (fun j hj=>by simp[zrt];omega) (fun e=>absurd rfl e) (fun _=>h1.pc.put k hk _ nt) (fun _=>rfl) (fun e=>absurd e n1) (fun _=>rfl) (fun e=>absurd e n2) (fun _=>rfl) (fun e=>absurd e n4) (fun e=>absurd e n3) (fun _=>rfl) n5
 have sr:∀ j,j<k+1→∃ sh',zrt V k (.slice (some ⟨sh,0,none⟩) n n) j=.slice (some ⟨sh',0,none⟩) n n∧ah (w1.setCells gC (k*2) [.slice (some ⟨sh,0,none⟩) n n,.int .i64 nt]) sh' n (Sf j)∧hi≤sh':=fun j hj=>by
  rcases Nat.lt_or_ge j k with e | e
  ·exact h2.sr j e
  ·obtain rfl:j=k:=by omega
   exact⟨sh,by simp[zrt],hp.share.but hb2 (by simp;have:=hp.new;have:=h.hil.1;omega),Nat.le_trans hw hp.new⟩
 exact { h2 with sr:=sr }
theorem zzx (g:Rat) (M:Nat) (h0:0≤g) (h1:g≤((M:Int):Rat)):∃ z:Nat,ul g=((z:Int):Rat)∧z≤M+1:=by
 have a0:0≤g.num:=Rat.num_nonneg.2 h0
 have a1:g.num≤(M:Int)*(g.den:Int):=by
  have:=(Rat.le_iff _ _).1 h1
  simpa using this
 have hd:(0:Int)<(g.den:Int):=by have:=g.den_pos;omega
 have b0:0≤fl g:=Int.ediv_nonneg a0 (by omega)
 have b1:fl g≤(M:Int):=Int.ediv_le_of_le_mul hd a1
 unfold ul
 split
 ·refine⟨(fl g+1).toNat,?_,by omega⟩
  rw[Int.toNat_of_nonneg (by omega),Rat.intCast_add]
 ·exact⟨(fl g).toNat,by rw[Int.toNat_of_nonneg b0],by omega⟩
theorem zso (kd:Int) (s:Bool) (x y:Int) (p:Option Addr) (fr li ti pr:Int) (tof:ByteArray) (bo:Int) (w:World) (h2:1≤li∧li≤1000000000000) (h3:0≤ti∧ti≤100) (h4:0≤pr∧pr≤1000000000000) (h5:0≤bo∧bo≤1000000000000000) :
  ∃ z:Nat,z≤1000000000000000∧∀ W,But [] w W→Calls prog 30 #[zq kd s x y p fr li ti pr tof,.int .i64 bo] W fun e w'=>e=.returned (.int .i64 (z:Int))∧But [] W w':=by
 have hp0:0≤li*ti:=Int.mul_nonneg (by omega) h3.1
 have hp1:li*ti≤100000000000000:=by
  have a1:=Int.mul_le_mul h2.2 h3.2 h3.1 (by omega)
  omega
 obtain⟨m,hm⟩:∃ m,min bo (li*ti)=m:=⟨_,rfl⟩
 have hm0:0≤m∧m≤100000000000000∧m≤li*ti:=by omega
 obtain⟨f,r,u,v,lf,ef,F,C⟩:=zmr m li (by omega) (by omega) (by omega) (by omega) (by omega)
 obtain⟨us,ux,FU,CU⟩:=zfp pr (by omega) (by omega)
 obtain⟨vs,vx,FV,CV⟩:=zfp 1 (by omega) (by omega)
 have lp:Len ((pr:Int):Rat) 1:=zjq _ (by omega)
 have l1:Len (((1:Int)):Rat) 1:=zjq _ (by omega)
 have l2:=zjo lf lp 2 (by omega)
 have hli:(0:Rat)<((li:Int):Rat):=by rw[show (0:Rat)=((0:Int):Rat) from rfl,Rat.intCast_lt_intCast];omega
 have f0:0≤f:=by
  refine Rat.not_lt.1 fun h=>?_
  have:=Rat.mul_lt_mul_of_pos_right h hli
  rw[ef,Rat.zero_mul,show (0:Rat)=((0:Int):Rat) from rfl,Rat.intCast_lt_intCast] at this
  omega
 have f1:f≤((ti:Int):Rat):=by
  refine Rat.not_lt.1 fun h=>?_
  have:=Rat.mul_lt_mul_of_pos_right h hli
  rw[ef,← Rat.intCast_mul,Rat.intCast_lt_intCast] at this
  have e:ti*li=li*ti:=Int.mul_comm _ _
  omega
 have p0:(0:Rat)≤((pr:Int):Rat):=by rw[show (0:Rat)=((0:Int):Rat) from rfl,Rat.intCast_le_intCast];omega
 have g0:0≤f*((pr:Int):Rat):=Rat.mul_nonneg f0 p0
 have g1:f*((pr:Int):Rat)≤(((100000000000000:Nat):Int):Rat):=by
  have a:=Rat.mul_le_mul_of_nonneg_right f1 p0
  rw[← Rat.intCast_mul] at a
  refine Rat.le_trans a ?_
  rw[Rat.intCast_le_intCast]
  have a1:=Int.mul_le_mul h3.2 h4.2 h4.1 (by omega)
  omega
 have i1:(((1:Int):Rat))⁻¹=1:=by
  have h:=Rat.mul_inv_cancel (1:Rat) (by decide)
  rw[Rat.one_mul] at h
  exact h
 obtain⟨z,hz,hzn⟩:=zzx (f*((pr:Int):Rat)) 100000000000000 g0 g1
 have hR:ul (f*((pr:Int):Rat)*(((1:Int):Rat))⁻¹)*((1:Int):Rat)=((z:Int):Rat):=by
  rw[i1,Rat.mul_one,hz,show (((1:Int):Rat))=1 from rfl,Rat.mul_one]
 refine⟨z,by omega,fun w hw=>?_⟩
 have MU:Hid (∀ W,Calls prog 57 #[.agg #[.bool r,.int .u64 u,.int .u64 v,.pointer none],.agg #[.bool us,.int .u64 ux,.int .u64 0,.pointer none]] W fun e w'=>∃ v,e=.returned v∧zi w' v (f*((pr:Int):Rat))∧But [] W w'):=fun W=>uq _ _ f _ W (F W) (FU W) (lf.mono (by omega)) (lp.mono (by omega))
 have RO:Hid (∀ W v,zi W v (f*((pr:Int):Rat))→Calls prog 59 #[v,.agg #[.bool vs,.int .u64 vx,.int .u64 0,.pointer none]] W fun e w'=>∃ v':Bool × Int × Int × Option Addr,e=.returned (.tuple #[.agg #[.bool v'.1,.int .u64 v'.2.1,.int .u64 v'.2.2.1,.pointer v'.2.2.2],.nilIface])∧zi w' (.agg #[.bool v'.1,.int .u64 v'.2.1,.int .u64 v'.2.2.1,.pointer v'.2.2.2]) ((z:Int):Rat)∧But [] W w'):=fun W v hv=>by
  refine (zyw v _ _ _ W hv (FV W) l2 l1 (by rw[show (((1:Int):Rat))=1 from rfl];decide)).mono ?_
  rintro e w' ⟨v',rfl,hf,hb⟩
  rw[hR] at hf
  obtain⟨x',y',p',rfl,-⟩:=hf.agg
  exact⟨(_,x',y',p'),rfl,hf,hb⟩
 obtain⟨pr2,hpr⟩:∃ pr2,li*ti=pr2:=⟨_,rfl⟩
 rw[hpr] at hp0 hp1 hm
 have HC:=hide C
 have HCU:=hide CU
 have HCV:=hide CV
 have X2:=hide (bf.new w kd s x y p fr li ti pr tof)
 have bA:=hide ((But.refl [] w).alloc (.cells #[.int .i64 kd,.bool s,.int .u64 x,.int .u64 y,.pointer p,.int .i64 fr,.int .i64 li,.int .i64 ti,.int .i64 pr,.string tof] 37))
 have HZN:=hide hzn
 clear C CU CV F FU FV ef f0 f1 p0 g0 g1 i1 hz hR lf lp l1 l2 hli hzn
 unfold zq
 go_enter func30,ntmps30
 go_wp2_with fail
 refine (za HC _).mono ?_
 rintro e w1 ⟨rfl,hb1⟩
 have B1:=hide ((za bA).trans' hb1)
 have x2:=(za X2).but hb1 (by simp)
 generalize w.heap.size=g2 at x2 ⊢
 have c5:P4o (w1.alloc (.cells #[.bool r,.int .u64 u,.int .u64 v,.pointer none] 35)) w1.heap.size 0 r u v none:=⟨by simp,by simp,by simp,by simp⟩
 have b5:But [] w1 (w1.alloc (.cells #[.bool r,.int .u64 u,.int .u64 v,.pointer none] 35)):=(But.refl _ _).alloc _
 have X5:=hide (x2.but b5 (by simp))
 have B5:=hide ((za B1).trans' b5)
 have C5:=hide c5
 clear hb1 bA X2 x2 c5 b5 B1 HC
 go_wp2
 generalize w1.alloc (.cells #[.bool r,.int .u64 u,.int .u64 v,.pointer none] 35)=V at *
 generalize w1.heap.size=g5 at C5 ⊢
 refine ziw 2 _ _ V g5 g2 r u v none pr us ux vs vx _ _ (by simp) (by simp[Act.eval]) (by simp[Act.eval]) (za C5) ((za X5).cells 8 _ rfl) (za HCU) (za HCV) (fun W _=>za MU W) (fun W _ v hv=>za RO W v hv) ?_
 rintro vm ⟨s',x',y',p'⟩ g6 w2 hP
 simp only[qx,List.foldl_cons,List.foldl_nil,Act.put,List.setIfInBounds_toArray,List.set_cons_zero,List.set_cons_succ]
 have hv:Value.agg #[.bool s',.int .u64 x',.int .u64 y',.pointer p']=.agg #[.bool false,.int .u64 (z:Int),.int .u64 0,.pointer none]:=zxn z (by have:=za HZN;omega) (hP.f6 rfl)
 simp only[Value.agg.injEq,Array.mk.injEq,List.cons.injEq,Value.bool.injEq,Value.int.injEq,Value.pointer.injEq,and_true,true_and] at hv
 obtain⟨rfl,rfl,rfl,rfl⟩:=hv
 have hput:=(hP.f10 rfl).put (us:=[.bool false,.int .u64 (z:Int),.int .u64 0,.pointer none]) rfl
 have hb:=zy w2 g6 [.bool false,.int .u64 (z:Int),.int .u64 0,.pointer none] 0
 have hnew:=(hP.f10 rfl).new
 have hB:=(za B5).trans' hP.mem
 have B6:=hide (hB.trans hb (fun x hx=>by simp at hx;subst hx;exact .inr (Nat.le_trans (za B5).size hnew)))
 have d0:=hput.cells 0 _ rfl
 have d1:=hput.cells 1 _ rfl
 have d2:=hput.cells 2 _ rfl
 have d3:=hput.cells 3 _ rfl
 have IN:=hide (fun W=>zfa z (by have:=za HZN;omega) W)
 generalize w2.setCells g6 0 [.bool false,.int .u64 (z:Int),.int .u64 0,.pointer none]=U at *
 clear hP hput hb hnew hB X5 B5 C5 MU RO HCU HCV
 go_wp2_with fail
 refine (za IN _).mono ?_
 rintro e w3 ⟨rfl,hb3⟩
 have B7:=hide ((za B6).trans' hb3)
 clear hb3 B6
 go_wp2
 exact bodyPost_ret (v:=.int .i64 (z:Int)) (by simp[results,results30,go_sem]) rfl ⟨rfl,za B7⟩
end Go.Proofs.YtcgecpoedojhjaaGreatDoor
