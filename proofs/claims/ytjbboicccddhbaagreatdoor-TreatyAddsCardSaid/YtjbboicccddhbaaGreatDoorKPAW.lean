/- Lines of a treaty that are appended to a -/
import Derived.Test.YtjbboicccddhbaaGreatDoorKPAQ
namespace Go.Proofs.YtjbboicccddhbaaGreatDoor
open Go.RowKit
def lcs (l:Ln) (s:Bool) (x y:Int):List Value:=[.int .i64 l.kd,.bool s,.int .u64 x,.int .u64 y,.pointer none,.int .i64 l.fr,.int .i64 l.li,.int .i64 l.ti,.int .i64 l.pr,.string l.to]
def LRow (B:Nat) (w:World) (v:Value) (ls:List Ln):Prop:=∃ us,w.ownsRow B 71 10 v ls.length us∧us.length=ls.length*10∧∀ i l,ls[i]? = some l→∃ s x y,(∀ r u,(lcs l s x y)[r]? = some u→us[i*10+r]? = some u)∧∀ W,FracAt W (.agg #[.bool s,.int .u64 x,.int .u64 y,.pointer none]) l.f
theorem LRow.form {B:Nat} {w:World} {v:Value} {ls:List Ln} (h:LRow B w v ls):∃ a c,v=.slice a ls.length c:=by
 obtain ⟨us,ho,-⟩:=h
 exact ownsRow_form ho
theorem LRow.nil (B:Nat) (w:World):LRow B w (.slice none 0 0) []:=⟨[],⟨rfl,.inl ⟨rfl,rfl⟩⟩,rfl,fun i l h=>by simp at h⟩
theorem LRow.but {B:Nat} {w w':World} {v:Value} {ls:List Ln} (h:LRow B w v ls) (hb:But [] w w'):LRow B w' v ls:=by
 obtain ⟨us,ho,h1,h2⟩:=h
 exact ⟨us,ownsRow_but ho hb,h1,h2⟩
theorem LRow.lines {B:Nat} {w:World} {v:Value} {ls:List Ln} (h:LRow B w v ls):LinesAt w v ls:=by
 obtain ⟨us,ho,hl,h2⟩:=h
 rcases ho.2 with ⟨rfl,h0⟩ | ⟨g,cap,cur,rfl,-,-,hc,-⟩
 ·refine ⟨none,0,by rw [h0],by omega,fun i l hi=>?_⟩
  have:=(List.getElem?_eq_some_iff.1 hi).1
  omega
 ·refine ⟨_,cap,rfl,by omega,fun i l hi=>⟨g,0,rfl,?_⟩⟩
  have hi':=(List.getElem?_eq_some_iff.1 hi).1
  obtain ⟨s,x,y,hc,hf⟩:=h2 i l hi
  have hcell:∀ r u,r<10→(lcs l s x y)[r]? = some u→w.cell? ⟨g,0+i*10+r,none⟩=some u:=fun r u hr hu=>by
   rw [Nat.zero_add,ho.cellAt (i*10+r) (by omega)]
   exact hc r u hu
  exact ⟨s,x,y,none,⟨hcell 0 _ (by omega) rfl,hcell 1 _ (by omega) rfl,hcell 2 _ (by omega) rfl,hcell 3 _ (by omega) rfl,hcell 4 _ (by omega) rfl,hcell 5 _ (by omega) rfl,hcell 6 _ (by omega) rfl,hcell 7 _ (by omega) rfl,hcell 8 _ (by omega) rfl,hcell 9 _ (by omega) rfl⟩,hf w⟩
theorem info_line:∃ i,Tryz.prog.info? 71 = some i∧i.zero=some (.agg #[.int .i64 0,.bool false,.int .u64 0,.int .u64 0,.pointer none,.int .i64 0,.int .i64 0,.int .i64 0,.int .i64 0,.string ⟨#[]⟩])∧i.size=10∧i.bytes=88:=by
 have h:(Tryz.prog.info? 71).map (fun i=>(i.zero,i.size,i.bytes))=some (some (.agg #[.int .i64 0,.bool false,.int .u64 0,.int .u64 0,.pointer none,.int .i64 0,.int .i64 0,.int .i64 0,.int .i64 0,.string ⟨#[]⟩]),10,88):=by kernel_rfl
 cases e:Tryz.prog.info? 71 with
 | none=>rw [e] at h;simp at h
 | some i =>
  rw [e] at h
  simp only [Option.map_some,Option.some.injEq,Prod.mk.injEq] at h
  exact ⟨i,rfl,h.1,h.2.1,h.2.2⟩
theorem LRow.app {B:Nat} {w:World} {v:Value} {ls:List Ln} (h:LRow B w v ls) (hB:B≤w.heap.size) (hk:ls.length<100000) (l:Ln) (s:Bool) (x y:Int) (hf:∀ W,FracAt W (.agg #[.bool s,.int .u64 x,.int .u64 y,.pointer none]) l.f) (g:Nat) (hc:∀ r u,(lcs l s x y)[r]? = some u→w.cell? ⟨g,r,none⟩=some u) :
  ∃ v' w',(Builtin.append_ #[58,58] 58 #[v,.slice (some ⟨g,0,none⟩) 1 1]).run Tryz.prog w=.ok v' w'∧LRow B w' v' (ls++[l])∧∀ w0,But [] w0 w→w0.heap.size≤B→But [] w0 w':=by
 obtain ⟨us,ho,hl,h2⟩:=h
 obtain ⟨i0,hi,hz0,hz1,hz2⟩:=info_line
 obtain ⟨v',w',hr,ho',hg,-⟩:=run_append_own (P:=Tryz.prog) w B 58 58 71 i0 _ 10 88 Tryz.underlying58 hi hz0 hz1 hz2 rfl (by decide) v ls.length us ho ⟨g,0,none⟩ 1 1 (lcs l s x y) rfl (fun j u hj=>by
   have:=hc j u hj
   have e:(Addr.add ⟨g,0,none⟩ j)=⟨g,j,none⟩:=by simp [Addr.add];omega
   rw [e]
   exact this) (fun u hu=>by
   simp only [lcs,List.mem_cons,List.not_mem_nil,or_false] at hu
   rcases hu with rfl | rfl | rfl | rfl | rfl | rfl | rfl | rfl | rfl | rfl <;> rfl) (by unfold maxLen;omega) (by omega) hB
 refine ⟨v',w',hr,⟨us++lcs l s x y,by rw [List.length_append];exact ho',by rw [List.length_append,List.length_append,hl];simp [lcs];omega,fun i l' hi=>?_⟩,fun w0 h0 hb=>but_of_grown h0 ho hb hg⟩
 rcases Nat.lt_or_ge i ls.length with hlt | hge
 ·rw [List.getElem?_append_left hlt] at hi
  obtain ⟨s',x',y',k1,k2⟩:=h2 i l' hi
  refine ⟨s',x',y',fun r u hu=>?_,k2⟩
  have hr10:r<10:=by have:=(List.getElem?_eq_some_iff.1 hu).1;simpa [lcs] using this
  rw [List.getElem?_append_left (by omega)]
  exact k1 r u hu
 ·have hi':=(List.getElem?_eq_some_iff.1 hi).1
  rw [List.length_append] at hi'
  obtain rfl:i=ls.length:=by simp at hi';omega
  rw [List.getElem?_append_right (by omega),Nat.sub_self] at hi
  obtain rfl:l=l':=by simpa using hi
  refine ⟨s,x,y,fun r u hu=>?_,hf⟩
  rw [List.getElem?_append_right (by omega),show ls.length*10+r-us.length=r by omega]
  exact hu
structure PL where
 kd:Int
 qu:Int
 qv:Int
 fr:Int
 li:Int
 ti:Int
 pr:Int
 to:ByteArray
def PLAt (w:World) (b o:Nat) (p:PL):Prop:=w.cell? ⟨b,o,none⟩=some (.int .i64 p.kd)∧w.cell? ⟨b,o+1,none⟩=some (.int .i64 p.qu)∧w.cell? ⟨b,o+2,none⟩=some (.int .i64 p.qv)∧w.cell? ⟨b,o+3,none⟩=some (.int .i64 p.fr)∧w.cell? ⟨b,o+4,none⟩=some (.int .i64 p.li)∧w.cell? ⟨b,o+5,none⟩=some (.int .i64 p.ti)∧w.cell? ⟨b,o+6,none⟩=some (.int .i64 p.pr)∧w.cell? ⟨b,o+7,none⟩=some (.string p.to)
theorem PLAt.but {w w':World} {b o:Nat} {p:PL} {l:List Nat} (h:PLAt w b o p) (hb:But l w w') (hn:b ∉ l):PLAt w' b o p:=by
 obtain ⟨c0,c1,c2,c3,c4,c5,c6,c7⟩:=h
 exact ⟨hb.cell_some c0 hn,hb.cell_some c1 hn,hb.cell_some c2 hn,hb.cell_some c3 hn,hb.cell_some c4 hn,hb.cell_some c5 hn,hb.cell_some c6 hn,hb.cell_some c7 hn⟩
def PLsAt (w:World) (v:Value) (ps:List PL):Prop:=∃ a cap,v=.slice a ps.length cap∧ps.length≤cap∧∀ i p,ps[i]? = some p→∃ b off,a=some ⟨b,off,none⟩∧PLAt w b (off+i*8) p
theorem PLsAt.but {w w':World} {v:Value} {ps:List PL} (h:PLsAt w v ps) (hb:But [] w w'):PLsAt w' v ps:=by
 obtain ⟨a,cap,e,hc,h⟩:=h
 refine ⟨a,cap,e,hc,fun i p hp=>?_⟩
 obtain ⟨b,off,e1,h1⟩:=h i p hp
 exact ⟨b,off,e1,h1.but hb (by simp)⟩
def lnOf (p:PL):Ln:=⟨p.kd,qf (p.qu,p.qv),p.fr,p.li,p.ti,p.pr,p.to⟩
end Go.Proofs.YtjbboicccddhbaaGreatDoor

namespace Go.Proofs.YtjbboicccddhbaaGreatDoor
open Go.RowKit
def clA (cs:List (Int × Int)) (j:Nat):Int × Int:=cs.getD j (1,0)
theorem clA_get {cs:List (Int × Int)} {k:Nat} (h:k<cs.length):cs[k]? = some (clA cs k)∧clA cs k ∈ cs:=by
 have e:clA cs k=cs[k]:=by simp [clA,List.getD_eq_getElem?_getD,List.getElem?_eq_getElem h]
 exact ⟨by rw [e];exact List.getElem?_eq_getElem h,by rw [e];exact List.getElem_mem h⟩
def bsJ (ls:List Ln) (cs:List (Int × Int)):Nat→Nat→Int
 | 0=>fun _=>0
 | j+1=>fun i=>bsJ ls cs j i+ssF ls (clA cs j).1 (clA cs j).2 (bsJ ls cs j) i
def SJ (ls:List Ln) (cs:List (Int × Int)) (j:Nat):Nat→Int:=ssF ls (clA cs j).1 (clA cs j).2 (bsJ ls cs j)
def LJ (ls:List Ln) (cs:List (Int × Int)) (n j:Nat):Int:=lfF ls (clA cs j).1 (clA cs j).2 (bsJ ls cs j) n
def ntJ (ls:List Ln) (cs:List (Int × Int)) (n:Nat):Nat→Int
 | 0=>0
 | j+1=>ntJ ls cs n j+LJ ls cs n j
theorem bsJ_ok (ls:List Ln) (cs:List (Int × Int)) (n:Nat) (hn:n=ls.length) (hok:∀ l ∈ ls,LnOk l) (hcs:∀ q ∈ cs,ClOk q):∀ j,j≤cs.length→BoOk ls (bsJ ls cs j) n ((j:Int)*1000000000000)
 | 0,_=>fun i hi=>⟨Int.le_refl _,by simp [bsJ],fun h=>by
   obtain ⟨-,-,⟨-,r2,-,r4⟩,-⟩:=hok _ (lnA_get (ls:=ls) (k:=i) (by omega)).2
   have:=Int.mul_nonneg r2.1 (show 0≤(lnA ls i).ti+1 by omega)
   exact this⟩
 | j+1,hj=>fun i hi=>by
  have ih:=bsJ_ok ls cs n hn hok hcs j (by omega)
  obtain ⟨q1,q2,q3,q4⟩:=hcs _ (clA_get (cs:=cs) (k:=j) (by omega)).2
  obtain ⟨a0,a1,a2⟩:=ssF_range ls (clA cs j).1 (clA cs j).2 (bsJ ls cs j) n _ hn hok q1 q3 ih i hi
  obtain ⟨b0,b1,b2⟩:=ih i hi
  have e:bsJ ls cs (j+1) i=bsJ ls cs j i+ssF ls (clA cs j).1 (clA cs j).2 (bsJ ls cs j) i:=rfl
  rw [e]
  have em:((j+1:Nat):Int)*1000000000000=(j:Int)*1000000000000+1000000000000:=by omega
  rw [em]
  exact ⟨by omega,by omega,fun h=>(a2 h).2⟩
theorem SJ_range (ls:List Ln) (cs:List (Int × Int)) (n:Nat) (hn:n=ls.length) (hok:∀ l ∈ ls,LnOk l) (hcs:∀ q ∈ cs,ClOk q) (j:Nat) (hj:j<cs.length) (i:Nat) (hi:i<n):0≤SJ ls cs j i∧((lnA ls i).kd=3→SJ ls cs j i≤(lnA ls i).li):=by
 obtain ⟨q1,q2,q3,q4⟩:=hcs _ (clA_get (cs:=cs) (k:=j) (by omega)).2
 obtain ⟨a0,a1,a2⟩:=ssF_range ls (clA cs j).1 (clA cs j).2 (bsJ ls cs j) n _ hn hok q1 q3 (bsJ_ok ls cs n hn hok hcs j (by omega)) i hi
 exact ⟨a0,fun h=>(a2 h).1⟩
theorem LJ_range (ls:List Ln) (cs:List (Int × Int)) (n:Nat) (hn:n=ls.length) (hok:∀ l ∈ ls,LnOk l) (hcs:∀ q ∈ cs,ClOk q) (j:Nat) (hj:j<cs.length):0≤LJ ls cs n j∧LJ ls cs n j≤1000000000000:=by
 obtain ⟨q1,q2,q3,q4⟩:=hcs _ (clA_get (cs:=cs) (k:=j) (by omega)).2
 obtain ⟨a0,a1⟩:=lfF_range ls (clA cs j).1 (clA cs j).2 (bsJ ls cs j) n _ hn hok q1 q3 (bsJ_ok ls cs n hn hok hcs j (by omega)) n (Nat.le_refl _)
 exact ⟨a0,by unfold LJ;omega⟩
theorem ntJ_range (ls:List Ln) (cs:List (Int × Int)) (n:Nat) (hn:n=ls.length) (hok:∀ l ∈ ls,LnOk l) (hcs:∀ q ∈ cs,ClOk q):∀ j,j≤cs.length→0≤ntJ ls cs n j∧ntJ ls cs n j≤(j:Int)*1000000000000
 | 0,_=>⟨Int.le_refl _,by simp [ntJ]⟩
 | j+1,hj=>by
  obtain ⟨a0,a1⟩:=ntJ_range ls cs n hn hok hcs j (by omega)
  obtain ⟨b0,b1⟩:=LJ_range ls cs n hn hok hcs j (by omega)
  have e:ntJ ls cs n (j+1)=ntJ ls cs n j+LJ ls cs n j:=rfl
  have em:((j+1:Nat):Int)*1000000000000=(j:Int)*1000000000000+1000000000000:=by omega
  rw [e,em]
  omega
def stI (l:Ln) (nt:Int):Int:=if l.kd=4 then abI l.fr l.li nt else 0
def ntK (ls:List Ln) (N:Int):Nat→Int
 | 0=>N
 | k+1=>ntK ls N k-stI (lnA ls k) (ntK ls N k)
def spK (ls:List Ln) (N:Int) (k:Nat):Int:=stI (lnA ls k) (ntK ls N k)
theorem stI_range (l:Ln) (nt:Int) (hok:LnOk l) (h:0≤nt):0≤stI l nt∧stI l nt≤nt:=by
 obtain ⟨-,-,⟨r1,r2,r3,r4⟩,-⟩:=hok
 unfold stI abI
 split <;> omega
theorem ntK_range (ls:List Ln) (N:Int) (n:Nat) (hn:n=ls.length) (hok:∀ l ∈ ls,LnOk l) (h:0≤N):∀ k,k≤n→0≤ntK ls N k∧ntK ls N k≤N
 | 0,_=>⟨h,Int.le_refl _⟩
 | k+1,hk=>by
  obtain ⟨a0,a1⟩:=ntK_range ls N n hn hok h k (by omega)
  obtain ⟨b0,b1⟩:=stI_range (lnA ls k) (ntK ls N k) (hok _ (lnA_get (by omega)).2) a0
  have e:ntK ls N (k+1)=ntK ls N k-stI (lnA ls k) (ntK ls N k):=rfl
  rw [e]
  omega
structure AG (w:World) (hi gC gS gP g8 gb g4 n nc kk:Nat) (Sf:Nat→Nat→Int) (V:Nat→Value) (F Sp Pm B:Nat→Int) (l:Int) (wr:World):Prop where
 fr:But [] w wr
 pc:PRow wr gC nc V F
 sr:∀ j,j<kk→∃ sh,V j=.slice (some ⟨sh,0,none⟩) n n∧IRow wr sh n (Sf j)∧hi≤sh
 st:IRow wr gS n Sp
 pm:IRow wr gP n Pm
 bo:IRow wr gb n B
 c0:wr.cell? ⟨g8,0,none⟩=some (.slice (some ⟨gC,0,none⟩) nc nc)
 c1:wr.cell? ⟨g8,1,none⟩=some (.slice (some ⟨gS,0,none⟩) n n)
 c2:wr.cell? ⟨g8,2,none⟩=some (.slice (some ⟨gP,0,none⟩) n n)
 c3:wr.cell? ⟨g8,3,none⟩=some (.int .i64 l)
 f8:∀ j,wr.frozen? ⟨g8,j,none⟩=false
 d0:wr.cell? ⟨g4,0,none⟩=some (.slice none 0 0)
 d1:wr.cell? ⟨g4,1,none⟩=some (.slice none 0 0)
 d2:wr.cell? ⟨g4,2,none⟩=some (.slice none 0 0)
 d3:wr.cell? ⟨g4,3,none⟩=some (.int .i64 0)
 f4:∀ j,wr.frozen? ⟨g4,j,none⟩=false
 nd:gC≠gS∧gC≠gP∧gC≠g8∧gC≠gb∧gC≠g4∧gS≠gP∧gS≠g8∧gS≠gb∧gS≠g4∧gP≠g8∧gP≠gb∧gP≠g4∧g8≠gb∧g8≠g4∧gb≠g4
 hil:gC<hi∧gS<hi∧gP<hi∧g8<hi∧gb<hi∧g4<hi
 old:w.heap.size≤gC∧w.heap.size≤gS∧w.heap.size≤gP∧w.heap.size≤g8∧w.heap.size≤gb∧w.heap.size≤g4
theorem AG.keep {w:World} {hi gC gS gP g8 gb g4 n nc kk:Nat} {Sf:Nat→Nat→Int} {V:Nat→Value} {F Sp Pm B:Nat→Int} {l:Int} {wr w1:World} (h:AG w hi gC gS gP g8 gb g4 n nc kk Sf V F Sp Pm B l wr) (g:Nat) (hg:g<hi∧w.heap.size≤g) (hb:But [g] wr w1)
  {V':Nat→Value} {F' Sp' Pm' B':Nat→Int} {l':Int} (eV:∀ j,j<kk→V' j=V j)
  (pc:g≠gC→V'=V∧F'=F) (pc':g=gC→PRow w1 gC nc V' F') (st:g≠gS→Sp'=Sp) (st':g=gS→IRow w1 gS n Sp') (pm:g≠gP→Pm'=Pm) (pm':g=gP→IRow w1 gP n Pm') (bo:g≠gb→B'=B) (bo':g=gb→IRow w1 gb n B')
  (c:g=g8→w1.cell? ⟨g8,0,none⟩=some (.slice (some ⟨gC,0,none⟩) nc nc)∧w1.cell? ⟨g8,1,none⟩=some (.slice (some ⟨gS,0,none⟩) n n)∧w1.cell? ⟨g8,2,none⟩=some (.slice (some ⟨gP,0,none⟩) n n)∧w1.cell? ⟨g8,3,none⟩=some (.int .i64 l')∧∀ j,w1.frozen? ⟨g8,j,none⟩=false) (c':g≠g8→l'=l) (n4:g≠g4) :
  AG w hi gC gS gP g8 gb g4 n nc kk Sf V' F' Sp' Pm' B' l' w1:=by
 have at8:w1.cell? ⟨g8,0,none⟩=some (.slice (some ⟨gC,0,none⟩) nc nc)∧w1.cell? ⟨g8,1,none⟩=some (.slice (some ⟨gS,0,none⟩) n n)∧w1.cell? ⟨g8,2,none⟩=some (.slice (some ⟨gP,0,none⟩) n n)∧w1.cell? ⟨g8,3,none⟩=some (.int .i64 l')∧∀ j,w1.frozen? ⟨g8,j,none⟩=false:=by
  by_cases e:g=g8
  ·exact c e
  ·rw [c' e]
   have hn:g8 ∉ [g]:=by simpa using Ne.symm e
   exact ⟨hb.cell_some h.c0 hn,hb.cell_some h.c1 hn,hb.cell_some h.c2 hn,hb.cell_some h.c3 hn,fun j=>(hb.frozen (p:=⟨g8,j,none⟩) (show g8<_ from lt_of_cell h.c0) hn).trans (h.f8 j)⟩
 have h4:g4 ∉ [g]:=by simpa using Ne.symm n4
 refine { fr:=h.fr.trans hb (fun x hx=>by simp at hx;subst hx;exact .inr hg.2),pc:=?_,sr:=fun j hj=>?_,st:=?_,pm:=?_,bo:=?_,c0:=at8.1,c1:=at8.2.1,c2:=at8.2.2.1,c3:=at8.2.2.2.1,f8:=at8.2.2.2.2,d0:=hb.cell_some h.d0 h4,d1:=hb.cell_some h.d1 h4,d2:=hb.cell_some h.d2 h4,d3:=hb.cell_some h.d3 h4,f4:=fun j=>(hb.frozen (p:=⟨g4,j,none⟩) (show g4<_ from lt_of_cell h.d0) h4).trans (h.f4 j),nd:=h.nd,hil:=h.hil,old:=h.old }
 ·by_cases e:g=gC
  ·exact pc' e
  ·rw [(pc e).1,(pc e).2];exact h.pc.but hb (by simpa using Ne.symm e)
 ·obtain ⟨sh,e1,e2,e3⟩:=h.sr j hj
  exact ⟨sh,by rw [eV j hj];exact e1,e2.but hb (by simp;omega),e3⟩
 ·by_cases e:g=gS
  ·exact st' e
  ·rw [st e];exact h.st.but hb (by simpa using Ne.symm e)
 ·by_cases e:g=gP
  ·exact pm' e
  ·rw [pm e];exact h.pm.but hb (by simpa using Ne.symm e)
 ·by_cases e:g=gb
  ·exact bo' e
  ·rw [bo e];exact h.bo.but hb (by simpa using Ne.symm e)
theorem AG.but {w:World} {hi gC gS gP g8 gb g4 n nc kk:Nat} {Sf:Nat→Nat→Int} {V:Nat→Value} {F Sp Pm B:Nat→Int} {l:Int} {wr w1:World} (h:AG w hi gC gS gP g8 gb g4 n nc kk Sf V F Sp Pm B l wr) (hb:But [] wr w1):AG w hi gC gS gP g8 gb g4 n nc kk Sf V F Sp Pm B l w1:=by
 have sr:∀ j,j<kk→∃ sh,V j=.slice (some ⟨sh,0,none⟩) n n∧IRow w1 sh n (Sf j)∧hi≤sh:=fun j hj=>by
  obtain ⟨sh,e1,e2,e3⟩:=h.sr j hj
  exact ⟨sh,e1,e2.but hb (by simp),e3⟩
 exact { h with fr:=h.fr.trans' hb,pc:=h.pc.but hb (by simp),sr:=sr,st:=h.st.but hb (by simp),pm:=h.pm.but hb (by simp),bo:=h.bo.but hb (by simp),c0:=hb.cell_some h.c0 (by simp),c1:=hb.cell_some h.c1 (by simp),c2:=hb.cell_some h.c2 (by simp),c3:=hb.cell_some h.c3 (by simp),f8:=fun j=>(hb.frozen (p:=⟨g8,j,none⟩) (show g8<_ from lt_of_cell h.c0) (by simp)).trans (h.f8 j),d0:=hb.cell_some h.d0 (by simp),d1:=hb.cell_some h.d1 (by simp),d2:=hb.cell_some h.d2 (by simp),d3:=hb.cell_some h.d3 (by simp),f4:=fun j=>(hb.frozen (p:=⟨g4,j,none⟩) (show g4<_ from lt_of_cell h.d0) (by simp)).trans (h.f4 j) }
theorem AG.setS {w:World} {hi gC gS gP g8 gb g4 n nc kk:Nat} {Sf:Nat→Nat→Int} {V:Nat→Value} {F Sp Pm B:Nat→Int} {l:Int} {wr:World} (h:AG w hi gC gS gP g8 gb g4 n nc kk Sf V F Sp Pm B l wr) (k:Nat) (hk:k<n) (z:Int):AG w hi gC gS gP g8 gb g4 n nc kk Sf V F (updI Sp k z) Pm B l (wr.setCell ⟨gS,k,none⟩ (.int .i64 z)):=by
 obtain ⟨n1,n2,n3,n4,n5,n6,n7,n8,n9,-⟩:=h.nd
 exact h.keep gS ⟨h.hil.2.1,h.old.2.1⟩ (IRow.put_but wr gS k z) (fun _ _=>rfl) (fun _=>⟨rfl,rfl⟩) (fun e=>absurd e.symm n1) (fun e=>absurd rfl e) (fun _=>h.st.put k hk z) (fun _=>rfl) (fun e=>absurd e n6) (fun _=>rfl) (fun e=>absurd e n8) (fun e=>absurd e n7) (fun _=>rfl) n9
theorem AG.setP {w:World} {hi gC gS gP g8 gb g4 n nc kk:Nat} {Sf:Nat→Nat→Int} {V:Nat→Value} {F Sp Pm B:Nat→Int} {l:Int} {wr:World} (h:AG w hi gC gS gP g8 gb g4 n nc kk Sf V F Sp Pm B l wr) (k:Nat) (hk:k<n) (z:Int):AG w hi gC gS gP g8 gb g4 n nc kk Sf V F Sp (updI Pm k z) B l (wr.setCell ⟨gP,k,none⟩ (.int .i64 z)):=by
 obtain ⟨n1,n2,n3,n4,n5,n6,n7,n8,n9,m1,m2,m3,-⟩:=h.nd
 exact h.keep gP ⟨h.hil.2.2.1,h.old.2.2.1⟩ (IRow.put_but wr gP k z) (fun _ _=>rfl) (fun _=>⟨rfl,rfl⟩) (fun e=>absurd e.symm n2) (fun _=>rfl) (fun e=>absurd e.symm n6) (fun e=>absurd rfl e) (fun _=>h.pm.put k hk z) (fun _=>rfl) (fun e=>absurd e m2) (fun e=>absurd e m1) (fun _=>rfl) m3
theorem AG.setL {w:World} {hi gC gS gP g8 gb g4 n nc kk:Nat} {Sf:Nat→Nat→Int} {V:Nat→Value} {F Sp Pm B:Nat→Int} {l:Int} {wr:World} (h:AG w hi gC gS gP g8 gb g4 n nc kk Sf V F Sp Pm B l wr) (z:Int):AG w hi gC gS gP g8 gb g4 n nc kk Sf V F Sp Pm B z (wr.setCell ⟨g8,3,none⟩ (.int .i64 z)):=by
 obtain ⟨n1,n2,n3,n4,n5,n6,n7,n8,n9,m1,m2,m3,m4,m5,m6⟩:=h.nd
 have out:∀ k v,k<3→wr.cell? ⟨g8,k,none⟩=some v→(wr.setCell ⟨g8,3,none⟩ (.int .i64 z)).cell? ⟨g8,k,none⟩=some v:=fun k v hk hv=>by
  rw [setCell_is,World.cell?_setCells_out g8 _ _ _ _ (fun _ _=>by simp;omega)];exact hv
 exact h.keep g8 ⟨h.hil.2.2.2.1,h.old.2.2.2.1⟩ (IRow.put_but wr g8 3 z) (fun _ _=>rfl) (fun _=>⟨rfl,rfl⟩) (fun e=>absurd e.symm n3) (fun _=>rfl) (fun e=>absurd e.symm n7) (fun _=>rfl) (fun e=>absurd e.symm m1) (fun _=>rfl) (fun e=>absurd e m4)
  (fun _=>⟨out 0 _ (by omega) h.c0,out 1 _ (by omega) h.c1,out 2 _ (by omega) h.c2,World.cell?_setCell_same' _ _ _ (by rw [h.c3];rfl),fun j=>by rw [setCell_is,World.frozen?_setCells];exact h.f8 j⟩) (fun e=>absurd rfl e) m5
theorem AG.claim {w:World} {hi gC gS gP g8 gb g4 n nc k:Nat} {Sf:Nat→Nat→Int} {V:Nat→Value} {F Sp Pm B:Nat→Int} {l:Int} {wr w1:World} (h:AG w hi gC gS gP g8 gb g4 n nc k Sf V F Sp Pm B l wr) (hk:k<nc) (hw:hi≤wr.heap.size) (hb:But [gb] wr w1) (sh:Nat) (B':Nat→Int) (hp:Parted wr.heap.size w1 sh gb n (Sf k) B') (nt:Int) :
  AG w hi gC gS gP g8 gb g4 n nc (k+1) Sf (updV V k (.slice (some ⟨sh,0,none⟩) n n)) (updI F k nt) Sp Pm B' l (w1.setCells gC (k*2) [.slice (some ⟨sh,0,none⟩) n n,.int .i64 nt]):=by
 obtain ⟨n1,n2,n3,n4,n5,n6,n7,n8,n9,m1,m2,m3,m4,m5,m6⟩:=h.nd
 have h1:=h.keep gb ⟨h.hil.2.2.2.2.1,h.old.2.2.2.2.1⟩ hb (V':=V) (F':=F) (Sp':=Sp) (Pm':=Pm) (B':=B') (l':=l) (fun _ _=>rfl) (fun _=>⟨rfl,rfl⟩) (fun e=>absurd e.symm n4) (fun _=>rfl) (fun e=>absurd e.symm n8) (fun _=>rfl) (fun e=>absurd e.symm m2) (fun e=>absurd rfl e) (fun _=>hp.borne) (fun e=>absurd e.symm m4) (fun _=>rfl) m6
 have hb2:=but_setCells w1 gC [.slice (some ⟨sh,0,none⟩) n n,.int .i64 nt] (k*2)
 have h2:=h1.keep gC ⟨h.hil.1,h.old.1⟩ hb2 (V':=updV V k (.slice (some ⟨sh,0,none⟩) n n)) (F':=updI F k nt) (Sp':=Sp) (Pm':=Pm) (B':=B') (l':=l) (fun j hj=>by simp [updV];omega) (fun e=>absurd rfl e) (fun _=>h1.pc.put k hk _ nt) (fun _=>rfl) (fun e=>absurd e n1) (fun _=>rfl) (fun e=>absurd e n2) (fun _=>rfl) (fun e=>absurd e n4) (fun e=>absurd e n3) (fun _=>rfl) n5
 have sr:∀ j,j<k+1→∃ sh',updV V k (.slice (some ⟨sh,0,none⟩) n n) j=.slice (some ⟨sh',0,none⟩) n n∧IRow (w1.setCells gC (k*2) [.slice (some ⟨sh,0,none⟩) n n,.int .i64 nt]) sh' n (Sf j)∧hi≤sh':=fun j hj=>by
  rcases Nat.lt_or_ge j k with e | e
  ·exact h2.sr j e
  ·obtain rfl:j=k:=by omega
   exact ⟨sh,by simp [updV],hp.share.but hb2 (by simp;have:=hp.new;have:=h.hil.1;omega),Nat.le_trans hw hp.new⟩
 exact { h2 with sr:=sr }
end Go.Proofs.YtjbboicccddhbaaGreatDoor

namespace Go.Proofs.YtjbboicccddhbaaGreatDoor
open Go.RowKit
def sS (F:Nat→Int):Nat→Int
 | 0=>0
 | k+1=>sS F k+F k
theorem sS_nonneg (F:Nat→Int):∀ k,(∀ i,i<k→0≤F i)→0≤sS F k
 | 0,_=>Int.le_refl _
 | k+1,h=>by
  have h1:=sS_nonneg F k (fun i hi=>h i (by omega))
  have h2:=h k (by omega)
  show 0≤sS F k+F k
  omega
theorem lf_sum (ls:List Ln) (sm am:Int) (bs:Nat→Int):∀ k,lfF ls sm am bs k+sS (ssF ls sm am bs) k=am
 | 0=>by show am+0=am;omega
 | k+1=>by
  have h:=lf_sum ls sm am bs k
  have e1:lfF ls sm am bs (k+1)=lfF ls sm am bs k-ssF ls sm am bs k:=rfl
  have e2:sS (ssF ls sm am bs) (k+1)=sS (ssF ls sm am bs) k+ssF ls sm am bs k:=rfl
  omega
def TJ (ls:List Ln) (cs:List (Int × Int)) (n:Nat):Nat→Int:=sS (fun j=>sS (SJ ls cs j) n)
def AJ (cs:List (Int × Int)):Nat→Int:=sS (fun j=>(clA cs j).2)
theorem nt_sum (ls:List Ln) (cs:List (Int × Int)) (n:Nat):∀ j,ntJ ls cs n j+TJ ls cs n j=AJ cs j
 | 0=>rfl
 | j+1=>by
  have h:=nt_sum ls cs n j
  have h2:LJ ls cs n j+sS (SJ ls cs j) n=(clA cs j).2:=lf_sum ls (clA cs j).1 (clA cs j).2 (bsJ ls cs j) n
  have e1:ntJ ls cs n (j+1)=ntJ ls cs n j+LJ ls cs n j:=rfl
  have e2:TJ ls cs n (j+1)=TJ ls cs n j+sS (SJ ls cs j) n:=rfl
  have e3:AJ cs (j+1)=AJ cs j+(clA cs j).2:=rfl
  omega
theorem stop_sum (ls:List Ln) (N:Int):∀ k,ntK ls N k+sS (spK ls N) k=N
 | 0=>by show N+0=N;omega
 | k+1=>by
  have h:=stop_sum ls N k
  have e1:ntK ls N (k+1)=ntK ls N k-spK ls N k:=rfl
  have e2:sS (spK ls N) (k+1)=sS (spK ls N) k+spK ls N k:=rfl
  omega
theorem AJ_range (cs:List (Int × Int)) (hcs:∀ q ∈ cs,ClOk q):∀ j,j≤cs.length→0≤AJ cs j∧AJ cs j≤(j:Int)*1000000000000
 | 0,_=>⟨Int.le_refl _,by simp [AJ,sS]⟩
 | j+1,hj=>by
  obtain ⟨a0,a1⟩:=AJ_range cs hcs j (by omega)
  obtain ⟨q1,q2,q3,q4⟩:=hcs _ (clA_get (cs:=cs) (k:=j) (by omega)).2
  have e:AJ cs (j+1)=AJ cs j+(clA cs j).2:=rfl
  have em:((j+1:Nat):Int)*1000000000000=(j:Int)*1000000000000+1000000000000:=by omega
  rw [e,em]
  omega
structure TAF (ls:List Ln) (cs:List (Int × Int)) (n nc:Nat):Prop where
 a:∀ j,j≤nc→(0≤AJ cs j∧AJ cs j≤100000000000000)∧0≤TJ ls cs n j∧TJ ls cs n j≤100000000000000
 b:∀ j,j<nc→∀ k,k≤n→0≤sS (SJ ls cs j) k∧sS (SJ ls cs j) k≤1000000000000
 c:∀ j,j<nc→(0≤LJ ls cs n j∧LJ ls cs n j≤1000000000000)∧LJ ls cs n j+sS (SJ ls cs j) n=(clA cs j).2∧0≤(clA cs j).2∧(clA cs j).2≤1000000000000
 d:∀ j,j<nc→∀ k,k<n→0≤SJ ls cs j k∧SJ ls cs j k≤1000000000000∧((lnA ls k).kd=3→SJ ls cs j k≤(lnA ls k).li)
 e:∀ k,k≤n→0≤sS (spK ls (ntJ ls cs n nc)) k∧sS (spK ls (ntJ ls cs n nc)) k≤100000000000000
 f:∀ k,k<n→0≤spK ls (ntJ ls cs n nc) k∧spK ls (ntJ ls cs n nc) k≤100000000000000∧((lnA ls k).kd≠4→spK ls (ntJ ls cs n nc) k=0)
 g:TJ ls cs n nc+sS (spK ls (ntJ ls cs n nc)) n+ntK ls (ntJ ls cs n nc) n=AJ cs nc
 h:0≤ntK ls (ntJ ls cs n nc) n∧ntK ls (ntJ ls cs n nc) n≤100000000000000
theorem taf_all (ls:List Ln) (cs:List (Int × Int)) (n nc:Nat) (hn:n=ls.length) (hnc:nc=cs.length) (h100:nc≤100) (hok:∀ l ∈ ls,LnOk l) (hcs:∀ q ∈ cs,ClOk q):TAF ls cs n nc:=by
 have hA:=AJ_range cs hcs
 have hNT:=ntJ_range ls cs n hn hok hcs
 have hSJ:∀ j,j<nc→∀ k,k≤n→0≤sS (SJ ls cs j) k∧sS (SJ ls cs j) k≤(clA cs j).2:=fun j hj k hk=>by
  obtain ⟨q1,q2,q3,q4⟩:=hcs _ (clA_get (cs:=cs) (k:=j) (by omega)).2
  have h1:=lf_sum ls (clA cs j).1 (clA cs j).2 (bsJ ls cs j) k
  obtain ⟨l0,l1⟩:=lfF_range ls (clA cs j).1 (clA cs j).2 (bsJ ls cs j) n _ hn hok q1 q3 (bsJ_ok ls cs n hn hok hcs j (by omega)) k hk
  have e:sS (SJ ls cs j) k=sS (ssF ls (clA cs j).1 (clA cs j).2 (bsJ ls cs j)) k:=rfl
  rw [e]
  omega
 have hN0:=hNT nc (by omega)
 have hNK:=ntK_range ls (ntJ ls cs n nc) n hn hok hN0.1
 refine ⟨fun j hj=>?_,fun j hj k hk=>?_,fun j hj=>?_,fun j hj k hk=>?_,fun k hk=>?_,fun k hk=>?_,?_,?_⟩
 ·obtain ⟨a0,a1⟩:=hA j (by omega)
  obtain ⟨b0,b1⟩:=hNT j (by omega)
  have h:=nt_sum ls cs n j
  have t0:0≤TJ ls cs n j:=sS_nonneg _ j (fun i hi=>(hSJ i (by omega) n (Nat.le_refl _)).1)
  omega
 ·obtain ⟨q1,q2,q3,q4⟩:=hcs _ (clA_get (cs:=cs) (k:=j) (by omega)).2
  have:=hSJ j hj k hk
  omega
 ·obtain ⟨q1,q2,q3,q4⟩:=hcs _ (clA_get (cs:=cs) (k:=j) (by omega)).2
  have h1:=LJ_range ls cs n hn hok hcs j (by omega)
  exact ⟨h1,lf_sum ls (clA cs j).1 (clA cs j).2 (bsJ ls cs j) n,q3,by omega⟩
 ·obtain ⟨h1,h2⟩:=SJ_range ls cs n hn hok hcs j (by omega) k hk
  obtain ⟨q1,q2,q3,q4⟩:=hcs _ (clA_get (cs:=cs) (k:=j) (by omega)).2
  have h3:=hSJ j hj (k+1) (by omega)
  have h4:=hSJ j hj k (by omega)
  have e:sS (SJ ls cs j) (k+1)=sS (SJ ls cs j) k+SJ ls cs j k:=rfl
  exact ⟨h1,by omega,h2⟩
 ·have h1:=stop_sum ls (ntJ ls cs n nc) k
  have h2:=hNK k hk
  omega
 ·have hl:=hok _ (lnA_get (ls:=ls) (k:=k) (by omega)).2
  obtain ⟨a0,a1⟩:=hNK k (by omega)
  obtain ⟨b0,b1⟩:=stI_range (lnA ls k) (ntK ls (ntJ ls cs n nc) k) hl a0
  refine ⟨b0,by unfold spK;omega,fun h=>?_⟩
  unfold spK stI
  rw [if_neg h]
 ·have h1:=stop_sum ls (ntJ ls cs n nc) n
  have h2:=nt_sum ls cs n nc
  omega
 ·have:=hNK n (Nat.le_refl _)
  omega
end Go.Proofs.YtjbboicccddhbaaGreatDoor
