/- Who bears what of a claim, as the Go tex -/
import Derived.Test.YtcgecpoedojhjaaGreatDoorKPAP
import Derived.Test.YtcgecpoedojhjaaGreatDoorKPAXb
namespace Go.Proofs.YtcgecpoedojhjaaGreatDoor
open Go.Proofs.Tryz
open Go.RowKit
theorem zi.stays {w:World} {v:Value} {f:Rat} (h:zi w v f) (lf:Len f 1) (w':World):zi w' v f:=by
 rcases h with h|⟨hbig,-⟩
 ·exact .inl h
 ·exfalso
  have h1:=zw (B:=18446744073709551616) (by omega) _ 1 lf.1
  have h2:=zw (B:=18446744073709551616) (by omega) _ 1 lf.2
  simp only[Nat.pow_one] at h1 h2
  omega
def lnA (ls:List Ln) (k:Nat):Ln:=ls.getD k ⟨0,0,0,0,0,0,⟨#[]⟩⟩
theorem zei {ls:List Ln} {k:Nat} (h:k<ls.length):ls[k]? = some (lnA ls k)∧lnA ls k ∈ ls:=by
 have e:lnA ls k=ls[k]:=by simp[lnA,List.getD_eq_getElem?_getD,List.getElem?_eq_getElem h]
 exact⟨by rw[e];exact List.getElem?_eq_getElem h,by rw[e];exact List.getElem_mem h⟩
def lfF (ls:List Ln) (sm am:Int) (bs:Nat→Int):Nat→Int
 | 0=>am
 | k+1=>lfF ls sm am bs k-brI (lnA ls k) sm (lfF ls sm am bs k) (bs k)
def ssF (ls:List Ln) (sm am:Int) (bs:Nat→Int) (k:Nat):Int:=brI (lnA ls k) sm (lfF ls sm am bs k) (bs k)
theorem qfj (ls:List Ln) (sm am:Int) (bs:Nat→Int) (k:Nat):lfF ls sm am bs (k+1)=lfF ls sm am bs k-ssF ls sm am bs k:=rfl
def qjg (ls:List Ln) (bs:Nat→Int) (n:Nat) (M:Int):Prop:=∀ i,i<n→0≤bs i∧bs i≤M∧((lnA ls i).kd=3→bs i≤(lnA ls i).li*((lnA ls i).ti+1))
theorem zej (ls:List Ln) (sm am:Int) (bs:Nat→Int) (n:Nat) (M:Int) (hn:n=ls.length) (hok:∀ l ∈ ls,di l) (h1:1≤sm) (h2:0≤am) (hb:qjg ls bs n M):∀ k,k≤n→0≤lfF ls sm am bs k∧lfF ls sm am bs k≤am
 | 0,_=>⟨h2,Int.le_refl _⟩
 | k+1,hk=>by
  obtain⟨a0,a1⟩:=zej ls sm am bs n M hn hok h1 h2 hb k (by omega)
  obtain⟨b0,b1,b2⟩:=hb k (by omega)
  obtain⟨c0,c1,-⟩:=zpl (lnA ls k) sm (lfF ls sm am bs k) (bs k) (hok _ (zei (by omega)).2) h1 a0 (fun h=>⟨b0,b2 h⟩)
  rw[qfj]
  unfold ssF
  omega
theorem zoq (ls:List Ln) (sm am:Int) (bs:Nat→Int) (n:Nat) (M:Int) (hn:n=ls.length) (hok:∀ l ∈ ls,di l) (h1:1≤sm) (h2:0≤am) (hb:qjg ls bs n M) (k:Nat) (hk:k<n):0≤ssF ls sm am bs k∧ssF ls sm am bs k≤am∧((lnA ls k).kd=3→ssF ls sm am bs k≤(lnA ls k).li∧bs k+ssF ls sm am bs k≤(lnA ls k).li*((lnA ls k).ti+1)):=by
 obtain⟨a0,a1⟩:=zej ls sm am bs n M hn hok h1 h2 hb k (by omega)
 obtain⟨b0,b1,b2⟩:=hb k hk
 obtain⟨c0,c1,c2⟩:=zpl (lnA ls k) sm (lfF ls sm am bs k) (bs k) (hok _ (zei (by omega)).2) h1 a0 (fun h=>⟨b0,b2 h⟩)
 exact⟨c0,by unfold ssF;omega,c2⟩
theorem ah.congr {w:World} {g n:Nat} {F G:Nat→Int} (h:ah w g n F) (e:∀ i,i<n→F i=G i):ah w g n G:=⟨fun k hk=>by rw[← e k hk];exact h.cells k hk,h.loose,h.lt⟩
structure PG (w:World) (gb gs g7 g4 g6 n:Nat) (sm:Int) (S B:Nat→Int) (l:Int) (wr:World):Prop where
 fr:But [gb] w wr
 sh:ah wr gs n S
 bo:ah wr gb n B
 c0:wr.cell? ⟨g7,0,none⟩=some (.slice (some ⟨gs,0,none⟩) n n)
 c1:wr.cell? ⟨g7,1,none⟩=some (.int .i64 l)
 f7:∀ j,wr.frozen? ⟨g7,j,none⟩=false
 cs:wr.cell? ⟨g4,0,none⟩=some (.int .i64 sm)
 d0:wr.cell? ⟨g6,0,none⟩=some (.slice none 0 0)
 d1:wr.cell? ⟨g6,1,none⟩=some (.int .i64 0)
 f6:∀ j,wr.frozen? ⟨g6,j,none⟩=false
 nsb:gs≠gb
 n7b:g7≠gb
 n7s:g7≠gs
 n4b:g4≠gb
 n4s:g4≠gs
 n47:g4≠g7
 n6b:g6≠gb
 n6s:g6≠gs
 n67:g6≠g7
 os:w.heap.size≤gs
 o7:w.heap.size≤g7
 o6:w.heap.size≤g6
theorem PG.but {w:World} {gb gs g7 g4 g6 n:Nat} {sm:Int} {S B:Nat→Int} {l:Int} {wr w1:World} (h:PG w gb gs g7 g4 g6 n sm S B l wr) (hb:But [] wr w1):PG w gb gs g7 g4 g6 n sm S B l w1 :=
 { h with fr:=h.fr.trans' hb,sh:=h.sh.but hb (by simp),bo:=h.bo.but hb (by simp),c0:=hb.zb h.c0 (by simp),c1:=hb.zb h.c1 (by simp),f7:=fun j=>(hb.frozen (p:=⟨g7,j,none⟩) (show g7<_ from lt_of_cell h.c0) (by simp)).trans (h.f7 j),cs:=hb.zb h.cs (by simp),d0:=hb.zb h.d0 (by simp),d1:=hb.zb h.d1 (by simp),f6:=fun j=>(hb.frozen (p:=⟨g6,j,none⟩) (show g6<_ from lt_of_cell h.d0) (by simp)).trans (h.f6 j) }
theorem PG.qpb {w:World} {gb gs g7 g4 g6 n:Nat} {sm:Int} {S B:Nat→Int} {l:Int} {wr:World} (h:PG w gb gs g7 g4 g6 n sm S B l wr) (k:Nat) (hk:k<n) (z:Int):PG w gb gs g7 g4 g6 n sm (zcz S k z) B l (wr.setCell ⟨gs,k,none⟩ (.int .i64 z)):=by
 have hb:=ah.zch wr gs k z
 exact { h with fr:=h.fr.trans hb (fun x hx=>by simp at hx;subst hx;exact .inr h.os),sh:=h.sh.put k hk z,bo:=h.bo.but hb (by simpa using h.nsb.symm),c0:=hb.zb h.c0 (by simpa using h.n7s),c1:=hb.zb h.c1 (by simpa using h.n7s),f7:=fun j=>(hb.frozen (p:=⟨g7,j,none⟩) (show g7<_ from lt_of_cell h.c0) (by simpa using h.n7s)).trans (h.f7 j),cs:=hb.zb h.cs (by simpa using h.n4s),d0:=hb.zb h.d0 (by simpa using h.n6s),d1:=hb.zb h.d1 (by simpa using h.n6s),f6:=fun j=>(hb.frozen (p:=⟨g6,j,none⟩) (show g6<_ from lt_of_cell h.d0) (by simpa using h.n6s)).trans (h.f6 j) }
theorem PG.qhc {w:World} {gb gs g7 g4 g6 n:Nat} {sm:Int} {S B:Nat→Int} {l:Int} {wr:World} (h:PG w gb gs g7 g4 g6 n sm S B l wr) (z:Int):PG w gb gs g7 g4 g6 n sm S B z (wr.setCell ⟨g7,1,none⟩ (.int .i64 z)):=by
 have hb:=ah.zch wr g7 1 z
 have e1:(wr.setCell ⟨g7,1,none⟩ (.int .i64 z)).cell? ⟨g7,1,none⟩=some (.int .i64 z):=World.cell?_setCell_same' _ _ _ (by rw[h.c1];rfl)
 have e0:(wr.setCell ⟨g7,1,none⟩ (.int .i64 z)).cell? ⟨g7,0,none⟩=some (.slice (some ⟨gs,0,none⟩) n n):=by
  rw[o9,World.cell?_setCells_out g7 _ _ _ _ (fun _ _=>by simp)]
  exact h.c0
 exact { h with fr:=h.fr.trans hb (fun x hx=>by simp at hx;subst hx;exact .inr h.o7),sh:=h.sh.but hb (by simpa using h.n7s.symm),bo:=h.bo.but hb (by simpa using h.n7b.symm),c0:=e0,c1:=e1,f7:=fun j=>by rw[o9,World.frozen?_setCells];exact h.f7 j,cs:=hb.zb h.cs (by simpa using h.n47),d0:=hb.zb h.d0 (by simpa using h.n67),d1:=hb.zb h.d1 (by simpa using h.n67),f6:=fun j=>(hb.frozen (p:=⟨g6,j,none⟩) (show g6<_ from lt_of_cell h.d0) (by simpa using h.n67)).trans (h.f6 j) }
theorem PG.qug {w:World} {gb gs g7 g4 g6 n:Nat} {sm:Int} {S B:Nat→Int} {l:Int} {wr:World} (h:PG w gb gs g7 g4 g6 n sm S B l wr) (k:Nat) (hk:k<n) (z:Int):PG w gb gs g7 g4 g6 n sm S (zcz B k z) l (wr.setCell ⟨gb,k,none⟩ (.int .i64 z)):=by
 have hb:=ah.zch wr gb k z
 exact { h with fr:=h.fr.trans hb (fun x hx=>.inl hx),sh:=h.sh.but hb (by simpa using h.nsb),bo:=h.bo.put k hk z,c0:=hb.zb h.c0 (by simpa using h.n7b),c1:=hb.zb h.c1 (by simpa using h.n7b),f7:=fun j=>(hb.frozen (p:=⟨g7,j,none⟩) (show g7<_ from lt_of_cell h.c0) (by simpa using h.n7b)).trans (h.f7 j),cs:=hb.zb h.cs (by simpa using h.n4b),d0:=hb.zb h.d0 (by simpa using h.n6b),d1:=hb.zb h.d1 (by simpa using h.n6b),f6:=fun j=>(hb.frozen (p:=⟨g6,j,none⟩) (show g6<_ from lt_of_cell h.d0) (by simpa using h.n6b)).trans (h.f6 j) }
def SR (S:Nat→Int) (k:Nat):Nat→Int:=fun i=>if i<k then S i else 0
def BR (S B:Nat→Int) (k:Nat):Nat→Int:=fun i=>if i<k then B i+S i else B i
theorem zxz (S:Nat→Int) (k:Nat):zcz (SR S k) k (S k)=SR S (k+1):=by
 funext i
 unfold zcz SR
 by_cases e:i=k
 ·subst e;simp
 ·rw[if_neg e]
  by_cases h:i<k
  ·rw[if_pos h,if_pos (by omega)]
  ·rw[if_neg h,if_neg (by omega)]
theorem qjh (S B:Nat→Int) (k:Nat):zcz (BR S B k) k (B k+S k)=BR S B (k+1):=by
 funext i
 unfold zcz BR
 by_cases e:i=k
 ·subst e;simp
 ·rw[if_neg e]
  by_cases h:i<k
  ·rw[if_pos h,if_pos (by omega)]
  ·rw[if_neg h,if_neg (by omega)]
theorem zuj.other {w w':World} {b o:Nat} {l:Ln} {L:List Nat} (h:zuj w b o l) (lf:Len l.f 1) (hb:But L w w') (hn:b ∉ L):zuj w' b o l:=by
 obtain⟨s,x,y,p,⟨c0,c1,c2,c3,c4,c5,c6,c7,c8,c9⟩,hf⟩:=h
 exact⟨s,x,y,p,⟨hb.zb c0 hn,hb.zb c1 hn,hb.zb c2 hn,hb.zb c3 hn,hb.zb c4 hn,hb.zb c5 hn,hb.zb c6 hn,hb.zb c7 hn,hb.zb c8 hn,hb.zb c9 hn⟩,hf.stays lf w'⟩
theorem bn.other {w w':World} {q:Option Addr} {n c:Nat} {ls:List Ln} {L:List Nat} (h:bn w (.slice q n c) ls) (lf:∀ l ∈ ls,Len l.f 1) (hb:But L w w') (hn:∀ b off,q=some ⟨b,off,none⟩→b ∉ L):bn w' (.slice q n c) ls:=by
 obtain⟨a,cap,e,hc,h⟩:=h
 simp only[Value.slice.injEq] at e
 obtain⟨rfl,rfl,rfl⟩:=e
 refine⟨q,c,rfl,hc,fun i l hl=>?_⟩
 obtain⟨b,off,e1,h1⟩:=h i l hl
 exact⟨b,off,e1,h1.other (lf l (List.mem_of_getElem? hl)) hb (hn b off e1)⟩
end Go.Proofs.YtcgecpoedojhjaaGreatDoor
