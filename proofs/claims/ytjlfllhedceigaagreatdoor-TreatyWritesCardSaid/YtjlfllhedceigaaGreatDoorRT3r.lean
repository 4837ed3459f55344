/- Rows of a call's own stay, and what is k -/
import Derived.Test.YtjlfllhedceigaaGreatDoorProg
import Derived.Laws.MakeOwn
import Derived.Deep.QuietTactic
import Derived.BigQuiet
import Derived.Outline
import Derived.Shelf.Spec.BitsCarry
import Derived.Deep.RegionHeld
import Derived.Test.YtjlfllhedceigaaGreatDoorRD1
import Derived.Test.YtjlfllhedceigaaGreatDoorREKr
import Derived.Test.YtjlfllhedceigaaGreatDoorRH9
import Derived.Test.YtjlfllhedceigaaGreatDoorRXQ
namespace Go.Proofs.YtjlfllhedceigaaGreatDoor
open Go.Proofs.Tryz
open Go.RowKit
set_option maxHeartbeats 16000000
set_option maxRecDepth 100000
set_option linter.unusedVariables false
theorem ownsRow_form {w:World} {base:Nat} {e:TypeId} {size:Nat} {v:Value} {n:Nat} {xs:List Value} (h:w.ownsRow base e size v n xs):∃ a c,v=.slice a n c:=by(
 rcases h.2 with ⟨rfl,h0⟩|⟨g,cap,cur,rfl,-⟩
 ·exact⟨none,0,by rw[h0]⟩
 ·exact⟨_,_,rfl⟩)
theorem zft {w0 w w':World} {base:Nat} {e:TypeId} {size:Nat} {v:Value} {n:Nat} {xs:List Value} (h:But [] w0 w) (ho:w.ownsRow base e size v n xs) (hb:w0.heap.size≤base) (hg:w.grownBy w' v.ownBlock):But [] w0 w' :=
 ⟨hg.os.trans h.os,hg.tape.trans h.tape,hg.output.trans h.output,Nat.le_trans h.size hg.size,fun k hk _=>by
  rw[hg.block k (Nat.lt_of_lt_of_le hk h.size) (fun e=>by have:=(ho.lt k e.symm).1;omega)]
  exact h.block k hk (by simp)⟩
theorem zcp {w w':World} {base:Nat} {e:TypeId} {size:Nat} {v:Value} {n:Nat} {xs:List Value} (h:w.ownsRow base e size v n xs) (hb:But [] w w'):w'.ownsRow base e size v n xs :=
 h.kept (row:=none) ⟨hb.os,hb.tape,hb.output,hb.size,fun k hk _=>hb.block k hk (by simp)⟩ (by
  by_cases h0:v.ownBlock=none
  ·exact .inl h0
  ·exact .inr h0)
def lcs (l:Ln) (s:Bool) (x y:Int):List Value:=[.int .i64 l.kd,.bool s,.int .u64 x,.int .u64 y,.pointer none,.int .i64 l.fr,.int .i64 l.li,.int .i64 l.ti,.int .i64 l.pr,.string l.toB]
def zdc (B:Nat) (w:World) (v:Value) (ls:List Ln):Prop:=∃ us,w.ownsRow B 77 10 v ls.length us∧us.length=ls.length*10∧∀ i l,ls[i]? = some l→∃ s x y,(∀ r u,(lcs l s x y)[r]? = some u→us[i*10+r]? = some u)∧∀ W,am W (.agg #[.bool s,.int .u64 x,.int .u64 y,.pointer none]) l.f
theorem zdc.form {B:Nat} {w:World} {v:Value} {ls:List Ln} (h:zdc B w v ls):∃ a c,v=.slice a ls.length c:=by
 obtain⟨us,ho,-⟩:=h
 exact ownsRow_form ho
theorem zdc.nil (B:Nat) (w:World):zdc B w (.slice none 0 0) []:=⟨[],⟨rfl,.inl ⟨rfl,rfl⟩⟩,rfl,fun i l h=>by simp at h⟩
theorem zdc.but {B:Nat} {w w':World} {v:Value} {ls:List Ln} (h:zdc B w v ls) (hb:But [] w w'):zdc B w' v ls:=by
 obtain⟨us,ho,h1,h2⟩:=h
 exact⟨us,zcp ho hb,h1,h2⟩
theorem zdc.lines {B:Nat} {w:World} {v:Value} {ls:List Ln} (h:zdc B w v ls):zce w v ls:=by(
 obtain⟨us,ho,hl,h2⟩:=h
 rcases ho.2 with ⟨rfl,h0⟩|⟨g,cap,cur,rfl,-,-,hc,-⟩
 ·refine⟨none,0,by rw[h0],by omega,fun i l hi=>?_⟩
  have:=(List.getElem?_eq_some_iff.1 hi).1
  omega
 ·(
 refine⟨_,cap,rfl,by omega,fun i l hi=>⟨g,0,rfl,?_⟩⟩
 have hi':=(List.getElem?_eq_some_iff.1 hi).1
 obtain⟨s,x,y,hc,hf⟩:=h2 i l hi
 have hcell:∀ r u,r<10→(lcs l s x y)[r]? = some u→w.cell? ⟨g,0+i*10+r,none⟩=some u:=fun r u hr hu=>by
  rw[Nat.zero_add,ho.cellAt (i*10+r) (by omega)]
  exact hc r u hu
 exact⟨s,x,y,none,⟨hcell 0 _ (by omega) rfl,hcell 1 _ (by omega) rfl,hcell 2 _ (by omega) rfl,hcell 3 _ (by omega) rfl,hcell 4 _ (by omega) rfl,hcell 5 _ (by omega) rfl,hcell 6 _ (by omega) rfl,hcell 7 _ (by omega) rfl,hcell 8 _ (by omega) rfl,hcell 9 _ (by omega) rfl⟩,hf w⟩))
theorem zxl:∃ i,prog.info? 77 = some i∧i.zero=some (.agg #[.int .i64 0,.bool false,.int .u64 0,.int .u64 0,.pointer none,.int .i64 0,.int .i64 0,.int .i64 0,.int .i64 0,.string ⟨#[]⟩])∧i.size=10∧i.bytes=88:=by(
 have h:(prog.info? 77).map (fun i=>(i.zero,i.size,i.bytes))=some (some (.agg #[.int .i64 0,.bool false,.int .u64 0,.int .u64 0,.pointer none,.int .i64 0,.int .i64 0,.int .i64 0,.int .i64 0,.string ⟨#[]⟩]),10,88):=by kernel_rfl
 cases e:prog.info? 77 with
 | none=>rw[e] at h;simp at h
 | some i =>
  rw[e] at h
  simp only[Option.map_some,Option.some.injEq,Prod.mk.injEq] at h
  exact⟨i,rfl,h.1,h.2.1,h.2.2⟩)
theorem zdc.app {B:Nat} {w:World} {v:Value} {ls:List Ln} (h:zdc B w v ls) (hB:B≤w.heap.size) (hk:ls.length<100000) (l:Ln) (s:Bool) (x y:Int) (hf:∀ W,am W (.agg #[.bool s,.int .u64 x,.int .u64 y,.pointer none]) l.f) (g:Nat) (hc:∀ r u,(lcs l s x y)[r]? = some u→w.cell? ⟨g,r,none⟩=some u) :
   ∃ v' w',(Builtin.append_ #[53,53] 53 #[v,.slice (some ⟨g,0,none⟩) 1 1]).run prog w=.ok v' w'∧zdc B w' v' (ls++[l])∧∀ w0,But [] w0 w→w0.heap.size≤B→But [] w0 w':=by(
 obtain⟨us,ho,hl,h2⟩:=h
 obtain⟨i0,hi,hz0,hz1,hz2⟩:=zxl
 obtain⟨v',w',hr,ho',hg,-⟩:=run_append_own (P:=prog) w B 53 53 77 i0 _ 10 88 underlying53 hi hz0 hz1 hz2 rfl (by decide) v ls.length us ho ⟨g,0,none⟩ 1 1 (lcs l s x y) rfl (fun j u hj=>by
   have:=hc j u hj
   have e:(Addr.add ⟨g,0,none⟩ j)=⟨g,j,none⟩:=by simp[Addr.add];omega
   rw[e]
   exact this) (fun u hu=>by
   simp only[lcs,List.mem_cons,List.not_mem_nil,or_false] at hu
   rcases hu with rfl|rfl|rfl|rfl|rfl|rfl|rfl|rfl|rfl|rfl <;> rfl) (by unfold maxLen;omega) (by omega) hB
 refine⟨v',w',hr,⟨us++lcs l s x y,by rw[List.length_append];exact ho',by rw[List.length_append,List.length_append,hl];simp[lcs];omega,fun i l' hi=>?_⟩,fun w0 h0 hb=>zft h0 ho hb hg⟩
 rcases Nat.lt_or_ge i ls.length with hlt | hge
 ·(
 rw[List.getElem?_append_left hlt] at hi
 obtain⟨s',x',y',k1,k2⟩:=h2 i l' hi
 refine⟨s',x',y',fun r u hu=>?_,k2⟩
 have hr10:r<10:=by have:=(List.getElem?_eq_some_iff.1 hu).1;simpa [lcs] using this
 rw[List.getElem?_append_left (by omega)]
 exact k1 r u hu)
 ·(
 have hi':=(List.getElem?_eq_some_iff.1 hi).1
 rw[List.length_append] at hi'
 obtain rfl:i=ls.length:=by simp at hi';omega
 rw[List.getElem?_append_right (by omega),Nat.sub_self] at hi
 obtain rfl:l=l':=by simpa using hi
 refine⟨s,x,y,fun r u hu=>?_,hf⟩
 rw[List.getElem?_append_right (by omega),show ls.length*10+r-us.length=r by omega]
 exact hu))
structure PL where
 kd:Int
 qu:Int
 qv:Int
 fr:Int
 li:Int
 ti:Int
 pr:Int
 toB:ByteArray
def zya (w:World) (b o:Nat) (p:PL):Prop:=w.cell? ⟨b,o,none⟩=some (.int .i64 p.kd)∧w.cell? ⟨b,o+1,none⟩=some (.int .i64 p.qu)∧w.cell? ⟨b,o+2,none⟩=some (.int .i64 p.qv)∧w.cell? ⟨b,o+3,none⟩=some (.int .i64 p.fr)∧w.cell? ⟨b,o+4,none⟩=some (.int .i64 p.li)∧w.cell? ⟨b,o+5,none⟩=some (.int .i64 p.ti)∧w.cell? ⟨b,o+6,none⟩=some (.int .i64 p.pr)∧w.cell? ⟨b,o+7,none⟩=some (.string p.toB)
theorem zya.but {w w':World} {b o:Nat} {p:PL} {l:List Nat} (h:zya w b o p) (hb:But l w w') (hn:b ∉ l):zya w' b o p:=by
 obtain⟨c0,c1,c2,c3,c4,c5,c6,c7⟩:=h
 exact⟨hb.ag c0 hn,hb.ag c1 hn,hb.ag c2 hn,hb.ag c3 hn,hb.ag c4 hn,hb.ag c5 hn,hb.ag c6 hn,hb.ag c7 hn⟩
def zid (w:World) (v:Value) (ps:List PL):Prop:=∃ a cap,v=.slice a ps.length cap∧ps.length≤cap∧∀ i p,ps[i]? = some p→∃ b off,a=some ⟨b,off,none⟩∧zya w b (off+i*8) p
theorem zid.but {w w':World} {v:Value} {ps:List PL} (h:zid w v ps) (hb:But [] w w'):zid w' v ps:=by(
 obtain⟨a,cap,e,hc,h⟩:=h
 refine⟨a,cap,e,hc,fun i p hp=>?_⟩
 obtain⟨b,off,e1,h1⟩:=h i p hp
 exact⟨b,off,e1,h1.but hb (by simp)⟩)
def ug (p:PL):Ln:=⟨p.kd,qf (p.qu,p.qv),p.fr,p.li,p.ti,p.pr,p.toB⟩
open Go.ChangeShapes Go.WideShapes Go.ChangeAt Go.RowKit Go.Joins
theorem qgd:prog.cellsOf 133 = 8:=by kernel_rfl
theorem zre:prog.cellsOf 9 = 1:=by kernel_rfl
theorem qft {H:Type} {enc:TypeId × Value→H} {W:World} {vs:List Value} {d:DataW H} {ps:List MemPlace} {n:Nat} (hl:vs.length=8) (hf:DataW.trod enc prog W 0 (fun _=>true) true n 133 vs=some (d,ps)) :
   ∃ p:PL,vs=[.int .i64 p.kd,.int .i64 p.qu,.int .i64 p.qv,.int .i64 p.fr,.int .i64 p.li,.int .i64 p.ti,.int .i64 p.pr,.string p.toB]∧ps=[]∧Fits (p.qu,p.qv)∧p.toB.size≤maxLen:=by(
 obtain⟨xs,k,hk,hxy,_,hxl,hg⟩:=DataW.trod_struct underlying133 hf
 match xs,hxl,vs,hl with
 | [y0,y1,y2,y3,y4,y5,y6],_,[v0,v1,v2,v3,v4,v5,v6,v7],_ =>
  have g0:=hg 0 _ rfl
  have g1:=hg 1 _ rfl
  have g2:=hg 2 _ rfl
  have g3:=hg 3 _ rfl
  have g4:=hg 4 _ rfl
  have g5:=hg 5 _ rfl
  have g6:=hg 6 _ rfl
  simp[ztn,qjt,zre] at g0 g1 g2 g3 g4 g5 g6
  obtain⟨z0,e0,f0,w0⟩:=DataW.trod_int underlying3 g0
  obtain⟨z2,e2,f2,w2⟩:=DataW.trod_int underlying3 g2
  obtain⟨z3,e3,f3,w3⟩:=DataW.trod_int underlying3 g3
  obtain⟨z4,e4,f4,w4⟩:=DataW.trod_int underlying3 g4
  obtain⟨z5,e5,f5,w5⟩:=DataW.trod_int underlying3 g5
  obtain⟨s6,e6,f6,w6⟩:=DataW.trod_string underlying9 g6
  obtain⟨us,k2,hk2,hxy2,_,hul,hu⟩:=DataW.trod_struct underlying23 g1
  match us,hul with
  | [a0,a1],_ =>
   have h0:=hu 0 _ rfl
   have h1:=hu 1 _ rfl
   simp[ztn] at h0 h1
   obtain⟨q0,c0,b0,x0⟩:=DataW.trod_int underlying3 h0
   obtain⟨q1,c1,b1,x1⟩:=DataW.trod_int underlying3 h1
   simp only[List.cons.injEq,and_true] at e0 e2 e3 e4 e5 e6 c0 c1
   have Bx:=bounds_i64 x0
   have By:=bounds_i64 x1
   have hfit:Fits (q0,q1):=⟨by omega,by omega,by omega,by omega⟩
   refine⟨⟨z0,q0,q1,z2,z3,z4,z5,s6⟩,by rw[e0,e2,e3,e4,e5,e6,c0,c1],?_,hfit,w6⟩
   have hp:=(Prod.mk.inj hxy).2
   have hq:=(congrArg Prod.snd hxy2)
   rw[hp]
   simp only[List.flatMap_cons,List.flatMap_nil,f0,f2,f3,f4,f5,f6,hq,b0,b1]
   rfl)
theorem qgg {W:World} {a:Addr} {i:Nat} {vs:List Value} (h:W.cells? 0 (a.add (i*8)) 8=some vs):vs.length=8∧(0<i*8∨a.spot=none)∧∀ j,j<8→W.cell? ⟨a.block,a.off+i*8+j,none⟩=vs[j]?:=by(
 obtain⟨-,hl,hc⟩:=World.cells?_some h
 have one:∀ j,j<8→∃ v,vs[j]? = some v∧W.cell? ((a.add (i*8)).add j)=some v:=fun j hj=>by
  refine⟨vs[j]'(by omega),List.getElem?_eq_getElem (by omega),?_⟩
  rw[hc j hj]
  exact List.getElem?_eq_getElem (by omega)
 obtain⟨v0,-,c0⟩:=one 0 (by omega)
 have hs:(a.add (i*8)).spot=none:=by
  have:=(zlj _ _ (zmn c0)).2
  simpa using this
 obtain⟨e,e2⟩:=zlj a (i*8) hs
 refine⟨hl,e2,fun j hj=>?_⟩
 obtain⟨v,hv,cj⟩:=one j hj
 rw[(zlj _ _ (zmn cj)).1,e] at cj
 rw[hv]
 exact cj)
theorem zwd {H:Type} {enc:TypeId × Value→H} {W:World} {v:Value} {d:DataW H} {ps:List MemPlace} (hval:Value.okWide prog W .any 0 41 v) (h:DataW.Trod enc prog W 0 (fun _=>true) true 41 v d ps) :
   ∃ ls:List PL,zid W v ls∧(∀ p ∈ ls,Fits (p.qu,p.qv))∧(∀ p ∈ ls,p.toB.size<9223372036854775808)∧∀ x ∈ ps,x.block<W.heap.size:=by(
 obtain⟨a,len,cap,rfl⟩:=okWide_slice underlying41 hval
 obtain⟨fuel,hf⟩:=h
 rcases Deep.open_slice underlying41 hf with ⟨hc,hx⟩|⟨b,len',cap',m,k,D,Pl,hc,-,hl,-,hmm,hx,hall⟩
 ·(
 have hc':[Value.slice a len cap]=[.slice none 0 0]:=hc
 simp only[List.cons.injEq,Value.slice.injEq,and_true] at hc'
 obtain⟨rfl,rfl,rfl⟩:=hc'
 obtain⟨rfl,rfl⟩:=Prod.mk.inj hx
 exact⟨[],⟨none,0,rfl,Nat.le_refl _,fun i q hq=>by simp at hq⟩,fun q hq=>by simp at hq,fun q hq=>by simp at hq,fun x hx=>by simp at hx⟩)
 ·(
 have hc':[Value.slice a len cap]=[.slice (some b) len' cap']:=hc
 simp only[List.cons.injEq,Value.slice.injEq,and_true] at hc'
 obtain⟨rfl,rfl,rfl⟩:=hc'
 have hlm:len≤m:=by rw[hmm];simpa using hl
 rw[qgd] at hx hall
 have each:∀ i,i<m→∃ p:PL,(0<i*8∨b.spot=none)∧zya W b.block (b.off+i*8) p∧Fits (p.qu,p.qv)∧p.toB.size<9223372036854775808∧Pl i=[]:=fun i hi=>by
  obtain⟨vs,c0,t0⟩:=hall i hi
  obtain⟨h1,h2,h3⟩:=qgg c0
  obtain⟨p,rfl,h5,h6,h7⟩:=qft h1 t0
  refine⟨p,h2,⟨?_,?_,?_,?_,?_,?_,?_,?_⟩,h6,by unfold maxLen at h7;omega,h5⟩
  ·exact h3 0 (by omega)
  ·exact h3 1 (by omega)
  ·exact h3 2 (by omega)
  ·exact h3 3 (by omega)
  ·exact h3 4 (by omega)
  ·exact h3 5 (by omega)
  ·exact h3 6 (by omega)
  ·exact h3 7 (by omega)
 obtain⟨q,hq⟩:=Classical.axiomOfChoice (fun i:Nat=>(by
  by_cases hi:i<m
  ·obtain⟨q,h⟩:=each i hi
   exact⟨q,fun _=>h⟩
  ·exact⟨⟨0,0,0,0,0,0,0,⟨#[]⟩⟩,fun h=>absurd h hi⟩:∃ p:PL,i<m→(0<i*8∨b.spot=none)∧zya W b.block (b.off+i*8) p∧Fits (p.qu,p.qv)∧p.toB.size<9223372036854775808∧Pl i=[]))
 obtain⟨hd,hps⟩:=Prod.mk.inj hx
 refine⟨(List.range len).map q,⟨some b,cap,by simp,by simpa using hl,fun i z hz=>?_⟩,fun z hz=>?_,fun z hz=>?_,fun x hx'=>?_⟩
 ·(
 rw[List.getElem?_map] at hz
 by_cases hi:i<len
 ·(
 rw[List.getElem?_range hi,Option.map_some] at hz
 obtain rfl:=Option.some.inj hz
 have hs:b.spot=none:=by
  have:=(hq 0 (by omega)).1
  simpa using this
 refine⟨b.block,b.off,?_,(hq i (by omega)).2.1⟩
 cases b
 simp only at hs
 subst hs
 rfl)
 ·rw[List.getElem?_eq_none (by simpa using hi)] at hz
  simp at hz)
 ·obtain⟨i,hi,rfl⟩:=List.mem_map.1 hz
  exact (hq i (by have:=List.mem_range.1 hi;omega)).2.2.1
 ·obtain⟨i,hi,rfl⟩:=List.mem_map.1 hz
  exact (hq i (by have:=List.mem_range.1 hi;omega)).2.2.2.1
 ·(
 rw[hps] at hx'
 rcases List.mem_append.1 hx' with h1 | h1
 ·(
 rcases Nat.eq_zero_or_pos m with h0 | h0
 ·subst h0
  simp[MemPlace.row] at h1
 ·(
 have hb:b.block<W.heap.size:=by
  have h:=ai (hq 0 h0).2.1.1
  exact h
 have:x.block=b.block:=by
  unfold MemPlace.row at h1
  obtain⟨i,-,rfl⟩:=List.mem_map.1 h1
  rfl
 omega))
 ·obtain⟨i,hi,hxi⟩:=List.mem_flatMap.1 h1
  rw[(hq i (List.mem_range.1 hi)).2.2.2.2] at hxi
  simp at hxi)))
theorem zii (q:Option Addr) (n c:Nat) (ps:List PL) (w:World) (hv:zid w (.slice q n c) ps) (hn:n≤60) (hf:∀ p ∈ ps,Fits (p.qu,p.qv)) :
   Calls prog 17 #[.slice q n c] w fun e w'=>∃ v,e=.returned v∧zdc w.heap.size w' v (ps.map ug)∧But [] w w':=by(
 have hnl:n=ps.length:=by
  obtain⟨a,cap,e,-⟩:=hv
  simp only[Value.slice.injEq] at e
  exact e.2.1
 have HV:=af hv
 have HF:=af hf
 have HNL:=af hnl
 clear hv hf hnl
 go_enter func17,ntmps17
 go_wp2
 go_loopw [3,8] (fun v i wr=>∃ k:Nat,k≤n∧i=.int .i64 (k:Int)∧Hid (zdc w.heap.size wr v ((ps.take k).map ug))∧Hid (But [] w wr)) (fun _ i _=>n-(intOf i).toNat)
 case atStart=>exact⟨0,Nat.zero_le _,rfl,zdc.nil _ _,But.refl _ _⟩
 case round =>(
 obtain⟨k,hk,rfl,HR,HB⟩:=hrel
 rename World=>wr
 by_cases hlt:k<n
 ·(
 have hkl:k<ps.length:=by have:=ae HNL;omega
 have hge:ps[k]? = some ps[k]:=List.getElem?_eq_getElem hkl
 have hmem:ps[k] ∈ ps:=List.getElem_mem hkl
 obtain⟨a',cap',ea,-,hc⟩:=(ae HV).but (ae HB)
 simp only[Value.slice.injEq] at ea
 obtain⟨rfl,-,rfl⟩:=ea
 obtain⟨b,off,rfl,c0,c1,c2,c3,c4,c5,c6,c7⟩:=hc k _ hge
 obtain⟨s1,x1,y1,lq,FQ,CQ⟩:=zmt (ps[k].qu,ps[k].qv) (ae HF _ hmem)
 have htk:(ps.take (k+1)).map ug=(ps.take k).map ug++[ug ps[k]]:=by rw[List.take_add_one,hge,List.map_append];rfl
 have hlen:((ps.take k).map ug).length=k:=by simp;omega
 obtain⟨p,hp⟩:∃ p,p=ps[k]:=⟨_,rfl⟩
 rw[← hp] at c0 c1 c2 c3 c4 c5 c6 c7 htk
 simp only[← hp] at FQ CQ
 have HTK:=af htk
 have HLEN:=af hlen
 have HFQ:=af FQ
 have HCQ:=af CQ
 have bB:But [] wr (wr.alloc (.cells #[.int .i64 p.kd,.int .i64 p.qu,.int .i64 p.qv,.int .i64 p.fr,.int .i64 p.li,.int .i64 p.ti,.int .i64 p.pr,.string p.toB] 133)):=(But.refl [] wr).alloc _
 have D5:=af (p9.made wr.heap.size wr [.int .i64 p.kd,.int .i64 p.qu,.int .i64 p.qv,.int .i64 p.fr,.int .i64 p.li,.int .i64 p.ti,.int .i64 p.pr,.string p.toB] 133 (Nat.le_refl _))
 have HR1:=af ((ae HR).but bB)
 have HB1:=af ((ae HB).trans' bB)
 clear hge hmem hc FQ CQ hp lq htk hlen bB HR HB
 go_wp2
 generalize wr.alloc (.cells #[.int .i64 p.kd,.int .i64 p.qu,.int .i64 p.qv,.int .i64 p.fr,.int .i64 p.li,.int .i64 p.ti,.int .i64 p.pr,.string p.toB] 133)=V1 at *
 generalize wr.heap.size=g5 at D5 ⊢
 have d5:=ae D5
 refine zjj 5 _ _ V1 u3 g5 p.kd p.qu p.qv s1 x1 y1 p.fr p.li p.ti p.pr p.toB (fun v' w'=>zdc w.heap.size w' v' ((ps.take k).map ug++[ug p])∧But [] w w') (by simp) (by simp[Act.eval]) (by simp[Act.eval]) (d5.cells 0 _ rfl) (d5.cells 3 _ rfl) (d5.cells 4 _ rfl) (d5.cells 5 _ rfl) (d5.cells 6 _ rfl) (d5.cells 7 _ rfl) (d5.cells 1 _ rfl) (d5.cells 2 _ rfl) (ae HCQ) (fun W g hb hN=>by
  have hbw:=(ae HB1).trans' hb
  obtain⟨v',w',hr,h1,h2⟩:=((ae HR1).but hb).app hbw.size (by have:=ae HLEN;omega) (ug p) s1 x1 y1 (ae HFQ) g (fun r u hu=>hN.cells r u hu)
  exact⟨v',w',hr,h1,h2 w hbw (Nat.le_refl _)⟩) ?_
 intro g va w1 hP
 simp only[bi,List.foldl_cons,List.foldl_nil,Act.put,List.setIfInBounds_toArray,List.set_cons_zero,List.set_cons_succ]
 rw[← ae HTK] at hP
 have HP1:=af hP.1
 have HP2:=af hP.2
 clear hP d5 D5 HR1 HB1 c0 c1 c2 c3 c4 c5 c6 c7
 go_wp2
 exact⟨⟨k+1,by omega,by go_num,ae HP1,ae HP2⟩,by simp[intOf];omega⟩)
 ·(
 obtain rfl:k=n:=by omega
 have hall:(ps.take k).map ug=ps.map ug:=by rw[List.take_of_length_le (by have:=ae HNL;omega)]
 rw[hall] at HR
 clear hall
 go_wp2
 exact bodyPost_ret (v:=u3) (by simp[results,results17,go_sem]) rfl ⟨u3,rfl,ae HR,ae HB⟩)))
theorem zbn.mono {f:Rat} {m n:Nat} (h:zbn f m) (hmn:m≤n):zbn f n:=⟨Nat.le_trans h.1 hmn,Nat.le_trans h.2 hmn⟩
theorem zmw (x y:Int) (m n:Nat) (hx:(wd 4294967296 x.natAbs).length≤m) (hy:(wd 4294967296 y.natAbs).length≤n):(wd 4294967296 (x*y).natAbs).length≤m+n:=by(
 rw[Int.natAbs_mul]
 have:=qcy x.natAbs y.natAbs
 omega)
def qem (u:Value):Prop:=(∀ s,u≠.bool s)∧∀ n:Int,u≠.int .u32 n
theorem qo.zuj {w w':World} {b o g:Nat} {z:Int} {u:Value} (h:qo w b o z) (hb:But [g] w w') (hn:b≠g) (hc:w.cell? ⟨g,0,none⟩=some u) (hu:qem u):qo w' b o z:=by
 obtain⟨h0,v,h1,h2⟩:=h
 exact⟨hb.ag h0 (by simpa using hn),v,hb.ag h1 (by simpa using hn),h2.over hb hc (fun n e=>hu.2 n e)⟩
theorem zx.zuj {w w':World} {b g:Nat} {f:Rat} {u:Value} (h:zx w b f) (hb:But [g] w w') (hc:w.cell? ⟨g,0,none⟩=some u) (hu:qem u):zx w' b f:=by(
 have hn:b≠g:=fun e=>by
  subst e
  have h1:=h.up.1
  rw[hc] at h1
  exact hu.1 _ (Option.some.inj h1)
 exact⟨h.up.zuj hb hn hc hu,h.low.zuj hb hn hc hu,h.sa.but hb (by simpa using hn),h.sb.but hb (by simpa using hn)⟩)
theorem zxb (z:Int):qem (.int .i64 z):=⟨fun s e=>by simp at e,fun n e=>by simp at e⟩
theorem ztm (x y:Int):-1≤ax x y∧ax x y≤1:=by(
 unfold ax
 split
 ·omega
 ·split <;> omega)
theorem qef (n:Int):(ax n 1==0)=decide (n=1):=by(
 unfold ax
 by_cases h1:n<1
 ·rw[if_pos h1,decide_eq_false (by omega)];rfl
 ·by_cases h2:n=1
  ·rw[if_neg h1,if_pos h2,decide_eq_true h2];rfl
  ·rw[if_neg h1,if_neg h2,decide_eq_false h2];rfl)
theorem zly (xb:Nat) (x:Int) (nx:Nat) (w:World) (hx:q9 w xb x (nx:Int)) (hnx:0<nx) (hnxl:(wd 4294967296 nx).length<8388608) :
   Calls prog 123 #[.pointer (some ⟨xb,0,none⟩)] w fun e w'=>e=.returned (.bool (decide (nx=1)))∧But [] w w':=by(
 have DX:=af (zjb xb x nx w hx hnx)
 have one:(wd 4294967296 (1:Int).natAbs).length<2147483648:=by
  have:=xh 1 (by omega)
  simpa using Nat.lt_of_le_of_lt this (by omega)
 have CM:=af (fun W b (h1:qo W xb 2 (nx:Int)) (h2:qo W b 0 1)=>zax xb 2 b 0 (nx:Int) 1 W h1 h2 (by rw[Int.natAbs_natCast];omega) one)
 obtain⟨c1,c2⟩:=ztm (nx:Int) 1
 have hc:Hid ((ax (nx:Int) 1==0)=decide (nx=1)):=by
  show _=_
  rw[qef]
  exact decide_eq_decide.2 (by omega)
 generalize ax (nx:Int) 1=cd at CM c1 c2 hc
 clear one
 go_enter func123,ntmps123
 go_wp2_with fail
 refine (ae DX).mono ?_
 rintro e w1 ⟨rfl,hw⟩
 obtain rfl:=hw.symm
 clear hw
 go_wp2_with fail
 refine (zah 1 _ (by omega) (by omega)).mono ?_
 rintro e w2 ⟨rfl,B2,I2,S2⟩
 go_wp2_with fail
 refine (ae CM _ _ (hx.low.but B2) I2).mono ?_
 rintro e w3 ⟨rfl,q,rfl⟩
 clear CM DX
 go_wp2
 go_ret
 exact⟨by rw[← ae hc];rfl,B2.drewN _⟩)
def zak (z:Int):List UInt8:=if z<0 then 45::Lib.decDigits z.natAbs else Lib.decDigits z.natAbs
theorem zwe {w:World} {base:Nat} {e:TypeId} {v:Value} {ds:List UInt8} (h:w.ownsRow base e 1 v (ds.length+1) (ds.map u8v++[.int .u8 45])) :
   ∃ g cap,v=.slice (some ⟨g,0,none⟩) (ds.length+1) cap∧base≤g∧ds.length+1≤cap∧Row .u8 w g ((ds++[45]).map UInt8.toNat):=by(
 have h':w.ownsRow base e 1 v (ds++[45]).length ((ds++[45]).map u8v):=by rw[List.length_append,List.map_append];exact h
 have h2:=zbg h' (by simp)
 rw[List.length_append] at h2
 exact h2)
theorem zpo (z:Int) (hz:z≠0) (ds:List UInt8) (h:j4 z.natAbs=ds):zak z=(if z<0 then ds++[45] else ds).reverse:=by
 rw[zak,← zfb _ (by omega),h]
 split <;> simp
structure qgm (w:World) (n m:Nat) (ds:List UInt8) (vb va:Value) (wr:World):Prop where
 words:Sl .u32 wr va (wd 4294967296 m)
 own:wr.ownsRow w.heap.size 5 1 vb ds.length (ds.map u8v)
 but:But [] w wr
 dig:j4 n=ds++j4 m
 len:(wd 4294967296 m).length<1073741824
theorem zqq (b o:Nat) (z:Int) (w:World) (h:qo w b o z) (hz:z≠0) (hl:(wd 4294967296 z.natAbs).length<1073741824) (hd:(j4 z.natAbs).length<1073741824) (t:ByteArray) (ht:Hid (t=⟨(zak z).toArray⟩)) :
   Calls prog 201 #[.pointer (some ⟨b,o,none⟩),.int .i64 10] w fun e w'=>e=.returned (.string t)∧But [] w w':=by(
 obtain⟨b0,vb,b1,hvb⟩:=h
 obtain⟨i0,hi,hz0,hz1,hz2⟩:=zja
 have hvb':=hvb
 obtain⟨a,cap,rfl,-,-⟩:=hvb'
 have n0:(((wd 4294967296 z.natAbs).length:Int)==0)=false:=by
  have:=zi (B:=4294967296) (by omega) z.natAbs
  simp;intro h;simp[h] at this;omega
 have HV:=af hvb
 have HL:=af hl
 clear hvb hl
 generalize (wd 4294967296 z.natAbs).length=l at n0 b1 HV
 go_enter func201,ntmps201
 go_wp2_with fail
 refine (zci _ _ _ (ae HV) (by have:=ae HL;omega)).mono ?_
 rintro e w1 ⟨v1,rfl,hv1,hb1,-⟩
 have B0:=hb1.ag b0 (by simp)
 go_wp2
 go_loopg [5,6,7] z.natAbs (fun m vb va vr wr=>∃ ds:List UInt8,qgm w z.natAbs m ds vb va wr)
 case atStart=>exact⟨[],⟨hv1,World.ownsRow_nil _ _ _ _,hb1,rfl,ae HL⟩⟩
 case round =>(
 obtain⟨ds,hI⟩:=hrel
 have hlz:=zi (B:=4294967296) (by omega) gk
 obtain⟨hsl,hown,hbut,hdig,hlen⟩:=hI
 have hsl':=hsl
 obtain⟨aa,ca,rfl,-,-⟩:=hsl'
 have hdl:ds.length<1073741824:=by have:=congrArg List.length hdig;rw[List.length_append] at this;omega
 generalize hla:(wd 4294967296 gk).length=la at *
 by_cases hm:gk=0
 ·(
 have:la=0:=by omega
 subst this
 subst hm
 rw[ek,List.append_nil] at hdig
 have hn0:0<ds.length:=by
  rw[← hdig,lv (by omega)];simp
 have c0:=hbut.ag b0 (by simp)
 have HDG:=af hdig
 clear hdig hla hlen hsl hlz
 by_cases hneg:z<0
 ·(
 rw[decide_eq_true hneg] at c0
 have HT:Hid (t=⟨(ds++[45]).reverse.toArray⟩):=by show _=_;rw[ae ht,zpo z hz ds (ae HDG),if_pos hneg]
 go_wp2_with (at_builtin;refine wpList_append_own _ rfl _ _ 141 rfl w.heap.size 5 i0 (.int .u8 0) 1 1 underlying141 hi hz0 hz1 hz2 rfl (by decide) _ _ _ rfl (hown.alloc _) ⟨wr.heap.size,0,none⟩ 1 1 [_] rfl rfl (cell_one_new _ _ _) (by intro u hu;simp at hu;subst hu;rfl) (by unfold maxLen;omega) (by omega) (by have:=hbut.size;simp;omega) ?_;intro v3 w3 hown3 hgrow3 hnil3;have hBW:But [] w w3:=(hbut.alloc _).grown hgrow3 (fun k hk=>(hown.lt k hk).1);obtain⟨g,cg,rfl,hg,hcg,hrow⟩:=zwe hown3;clear hown3 hgrow3 hnil3)
 go_loopw [8,9,10] (fun i j x wq=>∃ (k q:Nat) (cs:List Nat),i=.int .i64 k∧j=.int .i64 q∧k≤q+1∧Hid (k+q+1=ds.length+1∧ng ((ds++[45]).map UInt8.toNat) cs k∧Row .u8 wq g cs∧But [] w wq)) (fun i _ _ _=>ds.length+1-(intOf i).toNat)
 case atStart=>exact⟨0,ds.length+1-1,(ds++[45]).map UInt8.toNat,rfl,by congr 1 <;> omega,by omega,by omega,ng.start _,hrow,hBW⟩
 case round =>(
 obtain⟨k,q,cs,rfl,rfl,hkq,HJ⟩:=hrel
 rename World=>wq
 have hbl:((ds++[45]).map UInt8.toNat).length=ds.length+1:=by simp
 have hcl:cs.length=ds.length+1:=by rw[(ae HJ).2.1.len,hbl]
 have hsum:=(ae HJ).1
 by_cases hlt:k<q
 ·(
 obtain⟨ck,fk⟩:=(ae HJ).2.2.1 k (by omega)
 obtain⟨cq,fq⟩:=(ae HJ).2.2.1 q (by omega)
 have ST:=af ((ae HJ).2.1.step (by rw[hbl];omega))
 have hq:q=ds.length+1-1-k:=by omega
 rw[hbl,← hq] at ST
 have HC:=af hcl
 have HS:=af hsum
 have ne1:k≠q:=by omega
 have hk1:k<ds.length+1:=by omega
 have hq1:q<ds.length+1:=by omega
 clear hcl hbl hsum hq
 generalize hx:cs[k]?.getD 0=x at *
 generalize hy:cs[q]?.getD 0=y at *
 clear hx hy
 go_wp2
 refine⟨⟨k+1,q-1,(cs.set k y).set q x,by go_num,by rw[Int.ofNat_sub (by omega)];rfl,by omega,by have:=ae HS;omega,ae ST,((ae HJ).2.2.1.set k (by rw[ae HC];have:=ae HS;omega) y).set q (by rw[List.length_set,ae HC];have:=ae HS;omega) x,((ae HJ).2.2.2.setCell (.inr hg) _).setCell (.inr hg) _⟩,?_⟩
 have:=ae HS
 simp[intOf];omega)
 ·(
 have hfin:cs=((ds++[45]).map UInt8.toNat).reverse:=(ae HJ).2.1.fin (by rw[hbl];omega)
 have hcv:=run_convert_bytes_back (P:=prog) wq 141 9 5 ⟨g,0,none⟩ cg (ds++[45]).reverse underlying141 underlying5 underlying9 (fun j hj=>by
  have h1:=((ae HJ).2.2.1 j (by rw[hcl];simpa using hj)).1
  rw[hfin,← List.map_reverse,List.getElem?_map,List.getElem?_eq_getElem hj] at h1
  have e:(⟨g,0,none⟩:Addr).add j=⟨g,j,none⟩:=by by_cases h:j=0 <;> simp[Addr.add,h]
  rw[e];exact h1)
 rw[← ae HT] at hcv
 simp only[List.length_reverse,List.length_append,List.length_cons,List.length_nil,Nat.zero_add] at hcv
 have HB:=af (ae HJ).2.2.2
 clear hcl hbl hfin hsum HJ
 go_wp2
 go_ret
 exact⟨rfl,ae HB⟩)))
 ·(
 rw[decide_eq_false hneg] at c0
 have HT:Hid (t=⟨ds.reverse.toArray⟩):=by show _=_;rw[ae ht,zpo z hz ds (ae HDG),if_neg hneg]
 obtain⟨g,cg,rfl,hg,hcg,hrow⟩:=zbg hown hn0
 have hBW:=hbut
 go_wp2
 go_loopw [8,9,10] (fun i j x wq=>∃ (k q:Nat) (cs:List Nat),i=.int .i64 k∧j=.int .i64 q∧k≤q+1∧Hid (k+q+1=ds.length∧ng ((ds).map UInt8.toNat) cs k∧Row .u8 wq g cs∧But [] w wq)) (fun i _ _ _=>ds.length-(intOf i).toNat)
 case atStart=>exact⟨0,ds.length-1,(ds).map UInt8.toNat,rfl,by congr 1 <;> omega,by omega,by omega,ng.start _,hrow,hBW⟩
 case round =>(
 obtain⟨k,q,cs,rfl,rfl,hkq,HJ⟩:=hrel
 rename World=>wq
 have hbl:((ds).map UInt8.toNat).length=ds.length:=by simp
 have hcl:cs.length=ds.length:=by rw[(ae HJ).2.1.len,hbl]
 have hsum:=(ae HJ).1
 by_cases hlt:k<q
 ·(
 obtain⟨ck,fk⟩:=(ae HJ).2.2.1 k (by omega)
 obtain⟨cq,fq⟩:=(ae HJ).2.2.1 q (by omega)
 have ST:=af ((ae HJ).2.1.step (by rw[hbl];omega))
 have hq:q=ds.length-1-k:=by omega
 rw[hbl,← hq] at ST
 have HC:=af hcl
 have HS:=af hsum
 have ne1:k≠q:=by omega
 have hk1:k<ds.length:=by omega
 have hq1:q<ds.length:=by omega
 clear hcl hbl hsum hq
 generalize hx:cs[k]?.getD 0=x at *
 generalize hy:cs[q]?.getD 0=y at *
 clear hx hy
 go_wp2
 refine⟨⟨k+1,q-1,(cs.set k y).set q x,by go_num,by rw[Int.ofNat_sub (by omega)];rfl,by omega,by have:=ae HS;omega,ae ST,((ae HJ).2.2.1.set k (by rw[ae HC];have:=ae HS;omega) y).set q (by rw[List.length_set,ae HC];have:=ae HS;omega) x,((ae HJ).2.2.2.setCell (.inr hg) _).setCell (.inr hg) _⟩,?_⟩
 have:=ae HS
 simp[intOf];omega)
 ·(
 have hfin:cs=((ds).map UInt8.toNat).reverse:=(ae HJ).2.1.fin (by rw[hbl];omega)
 have hcv:=run_convert_bytes_back (P:=prog) wq 141 9 5 ⟨g,0,none⟩ cg (ds).reverse underlying141 underlying5 underlying9 (fun j hj=>by
  have h1:=((ae HJ).2.2.1 j (by rw[hcl];simpa using hj)).1
  rw[hfin,← List.map_reverse,List.getElem?_map,List.getElem?_eq_getElem hj] at h1
  have e:(⟨g,0,none⟩:Addr).add j=⟨g,j,none⟩:=by by_cases h:j=0 <;> simp[Addr.add,h]
  rw[e];exact h1)
 rw[← ae HT] at hcv
 rw[List.length_reverse] at hcv
 have HB:=af (ae HJ).2.2.2
 clear hcl hbl hfin hsum HJ
 go_wp2
 go_ret
 exact⟨rfl,ae HB⟩))))
 ·(
 have hla0:0<la:=by omega
 have HA:=af hla
 have HDG:=af hdig
 clear hla hdig hlz
 go_wp2_with fail
 refine (zjs _ gk 10 _ hsl (by omega) (by omega) (by rw[ae HA];exact hlen)).mono ?_
 rintro e w2 ⟨v2,rfl,hv2,hb2,hfr⟩
 have hr10:gk%10<10:=Nat.mod_lt _ (by omega)
 generalize hrr:gk%10=r at *
 have HR:=af hrr
 clear hrr
 have hown2:=oq hown hb2
 go_wp2_with (at_builtin;refine wpList_append_own _ rfl _ _ 141 rfl w.heap.size 5 i0 (.int .u8 0) 1 1 underlying141 hi hz0 hz1 hz2 rfl (by decide) _ _ _ rfl (hown2.alloc _) ⟨w2.heap.size,0,none⟩ 1 1 [_] rfl rfl (cell_one_new _ _ _) (by intro u hu;simp at hu;subst hu;rfl) (by unfold maxLen;omega) (by omega) (by have:=hbut.size;have:=hb2.size;simp;omega) ?_;intro v3 w3 hown3 hgrow3 hnil3)
 go_roundg (gk/10)
 case measure=>exact Nat.div_lt_self (by omega) (by omega)
 case rel =>(
 refine⟨ds++[UInt8.ofNat (48+r)],zys hv2 hgrow3 (fun k hk=>(hown.lt k hk).2) hfr,?_,((hbut.trans' hb2).alloc _).grown hgrow3 (fun k hk=>(hown.lt k hk).1),?_,?_⟩
 ·rw[List.length_append,List.map_append]
  rw[zfz r hr10] at hown3
  exact hown3
 ·rw[ae HDG,lv (by omega),ae HR,List.append_assoc];rfl
 ·have h1:=ak (B:=4294967296) (by omega) gk _ (Nat.le_refl _)
  have h2:=aj (B:=4294967296) (by omega) (gk/10) _ (Nat.lt_of_le_of_lt (Nat.div_le_self _ _) h1)
  rw[ae HA] at h2
  omega))))
theorem zqr (b o:Nat) (z:Int) (w:World) (h:qo w b o z) (hl:(wd 4294967296 z.natAbs).length<1073741824) (hd:(j4 z.natAbs).length<1073741824) (t:ByteArray) (ht:Hid (t=⟨(zak z).toArray⟩)) :
   Calls prog 201 #[.pointer (some ⟨b,o,none⟩),.int .i64 10] w fun e w'=>e=.returned (.string t)∧But [] w w':=by(
 by_cases hz:z=0
 ·(
 subst hz
 obtain⟨b0,vb,b1,hvb⟩:=h
 simp only[Int.natAbs_zero,zk] at hvb
 obtain⟨a,cap,rfl,-,-⟩:=hvb
 have e:Hid (t=⟨#[48]⟩):=by
  show _=_
  rw[ae ht]
  have:zak 0=[48]:=by rw[zak,if_neg (by omega),Int.natAbs_zero,Lib.decDigits,dif_pos (by omega)];rfl
  rw[this]
 clear ht hl hd b0
 go_enter func201,ntmps201
 go_wp2
 go_ret
 exact⟨by rw[ae e];rfl,But.refl _ _⟩)
 ·exact zqq b o z w h hz hl hd t ht)
theorem zbb (b o:Nat) (z:Int) (w:World) (h:qo w b o z) (hl:(wd 4294967296 z.natAbs).length<1073741824) (hd:(j4 z.natAbs).length<1073741824) (t:ByteArray) (ht:Hid (t=⟨(zak z).toArray⟩)) :
   Calls prog 124 #[.pointer (some ⟨b,o,none⟩)] w fun e w'=>e=.returned (.string t)∧But [] w w':=by(
 go_enter func124,ntmps124
 go_wp2_with fail
 refine (zqr b o z _ h hl hd t ht).mono ?_
 rintro e w1 ⟨rfl,hb⟩
 go_wp2
 go_ret
 exact⟨rfl,hb⟩)
def zgi (p:Int) (n:Nat):ByteArray:=if n=1 then ⟨(zak p).toArray⟩ else ⟨(zak p).toArray⟩++⟨#[47]⟩++⟨(zak n).toArray⟩
theorem zfq (X n:Nat) (h:(wd 4294967296 X).length≤n):(j4 X).length≤10*n:=by(
 refine zau X _ ?_
 have h1:=ak (B:=4294967296) (by omega) X n h
 refine Nat.lt_of_lt_of_le h1 ?_
 rw[Nat.pow_mul]
 exact Nat.pow_le_pow_left (by omega) n)
theorem zqz (z:Int) (n:Nat) (h:(wd 4294967296 z.natAbs).length≤n):(zak z).length≤10*n+2:=by(
 have hd:(Lib.decDigits z.natAbs).length≤10*n+1:=by
  rcases Nat.eq_zero_or_pos z.natAbs with h0 | h0
  ·rw[h0,Lib.decDigits_length,Lib.nDigits_small (by omega)];omega
  ·rw[← zfb _ h0,List.length_reverse]
   have:=zfq z.natAbs n h
   omega
 unfold zak
 split
 ·rw[List.length_cons];omega
 ·omega)
theorem zlx (b:Nat) (p:Int) (n:Nat) (w:World) (h:q9 w b p n) (hn0:0<n) (hp:(wd 4294967296 p.natAbs).length≤4000000) (hn:(wd 4294967296 n).length≤4000000) (t:ByteArray) (ht:Hid (t=⟨(zak p).toArray⟩++⟨#[47]⟩++⟨(zak n).toArray⟩)) :
   Calls prog 125 #[.pointer (some ⟨b,0,none⟩)] w fun e w'=>e=.returned (.string t)∧But [] w w':=by(
 obtain⟨tp,htp⟩:∃ tp:ByteArray,tp=⟨(zak p).toArray⟩:=⟨_,rfl⟩
 obtain⟨tn,htn⟩:∃ tn:ByteArray,tn=⟨(zak n).toArray⟩:=⟨_,rfl⟩
 have sp:tp.size≤40000002:=by rw[htp];exact zqz p 4000000 hp
 have sn:tn.size≤40000002:=by rw[htn];exact zqz n 4000000 (by rw[Int.natAbs_natCast];exact hn)
 rw[← htp,← htn] at ht
 have S1:=af (fun W (h:q9 W b p n)=>zbb b 0 p W h.up (by omega) (by have:=zfq p.natAbs _ hp;omega) tp htp)
 have S2:=af (fun W (h:q9 W b p n)=>zbb b 2 n W h.low (by rw[Int.natAbs_natCast];omega) (by rw[Int.natAbs_natCast];have:=zfq n _ hn;omega) tn htn)
 clear htp htn hp hn
 go_enter func125,ntmps125
 go_wp2_with fail
 refine (ae S1 _ h).mono ?_
 rintro e w1 ⟨rfl,B1⟩
 go_wp2_with fail
 refine (zjb b p n _ (h.but B1) hn0).mono ?_
 rintro e w2 ⟨rfl,hw⟩
 obtain rfl:=hw.symm
 clear hw
 go_wp2_with fail
 refine (ae S2 _ (h.but B1)).mono ?_
 rintro e w2 ⟨rfl,B2⟩
 go_wp2
 go_ret
 exact⟨by rw[ae ht];rfl,B1.trans' B2⟩)
theorem zgj (b:Nat) (p:Int) (n:Nat) (w:World) (h:q9 w b p n) (hn0:0<n) (hp:(wd 4294967296 p.natAbs).length≤4000000) (hn:(wd 4294967296 n).length≤4000000) (t:ByteArray) (ht:Hid (t=zgi p n)) :
   Calls prog 53 #[.pointer (some ⟨b,0,none⟩)] w fun e w'=>e=.returned (.string t)∧But [] w w':=by(
 have IS:=af (zly b p n w h hn0 (by omega))
 by_cases h1:n=1
 ·(
 have e1:Hid (t=⟨(zak p).toArray⟩):=by show _=_;rw[ae ht,zgi,if_pos h1]
 rw[decide_eq_true h1] at IS
 have S1:=af (fun W (h:q9 W b p n)=>zbb b 0 p W h.up (by omega) (by have:=zfq p.natAbs _ hp;omega) t e1)
 clear ht hp hn h1
 go_enter func53,ntmps53
 go_wp2_with fail
 refine (ae IS).mono ?_
 rintro e w1 ⟨rfl,B1⟩
 go_wp2_with fail
 refine (ae S1 _ (h.but B1)).mono ?_
 rintro e w2 ⟨rfl,B2⟩
 go_wp2
 go_ret
 exact⟨rfl,B1.trans' B2⟩)
 ·(
 have e1:Hid (t=⟨(zak p).toArray⟩++⟨#[47]⟩++⟨(zak n).toArray⟩):=by show _=_;rw[ae ht,zgi,if_neg h1]
 rw[decide_eq_false h1] at IS
 have S1:=af (fun W (h:q9 W b p n)=>zlx b p n W h hn0 hp hn t e1)
 clear ht hp hn h1
 go_enter func53,ntmps53
 go_wp2_with fail
 refine (ae IS).mono ?_
 rintro e w1 ⟨rfl,B1⟩
 go_wp2_with fail
 refine (ae S1 _ (h.but B1)).mono ?_
 rintro e w2 ⟨rfl,B2⟩
 go_wp2
 go_ret
 exact⟨rfl,B1.trans' B2⟩))
theorem zpy (b:Nat) (f:Rat) (w:World) (h:zx w b f) (hl:zbn f 4000000) (t:ByteArray) (ht:Hid (t=zgi f.num f.den)) :
   Calls prog 13 #[.pointer (some ⟨b,0,none⟩)] w fun e w'=>e=.returned (.string t)∧But [] w w':=by(
 have RS:=af (zgj b f.num f.den w h (Nat.pos_of_ne_zero f.den_nz) hl.1 hl.2 t ht)
 clear h hl ht
 go_enter func13,ntmps13
 go_wp2_with fail
 refine (ae RS).mono ?_
 rintro e w1 ⟨rfl,hb⟩
 go_wp2
 go_ret
 exact⟨rfl,hb⟩)
theorem qfp {a b:ByteArray} (h:a.data.toList=b.data.toList):a=b:=by
 cases a;cases b;simp only[ByteArray.mk.injEq];exact Array.ext' h
theorem ziv (a b:ByteArray):(a++b).data.toList=a.data.toList++b.data.toList:=by simp
theorem zyh (x:Rat):uh (decide (x.num<0)) x.num.natAbs x.den=zgi x.num x.den:=by(
 apply qfp
 have e:zak x.num=(if decide (x.num<0) then [45] else [])++Lib.decDigits x.num.natAbs:=by
  rw[zak]
  by_cases h:x.num<0
  ·rw[if_pos h,decide_eq_true h];rfl
  ·rw[if_neg h,decide_eq_false h];rfl
 have e2:zak (x.den:Int)=Lib.decDigits x.den:=by rw[zak,if_neg (by omega),Int.natAbs_natCast]
 generalize decide (x.num<0)=r at *
 rw[uh,zgi,ziv]
 by_cases hq:x.den=1
 ·rw[if_pos hq,if_pos hq,e]
  cases r <;> simp
 ·rw[if_neg hq,if_neg hq,ziv,ziv,ziv,e,e2]
  cases r <;> simp)
theorem zqn {f:Rat} {n:Nat} (h:Len f n):zbn f (2*n):=by(
 have h1:=ak (B:=18446744073709551616) (by omega) _ n h.1
 have h2:=ak (B:=18446744073709551616) (by omega) _ n h.2
 have e:(18446744073709551616:Nat)^n=4294967296^(2*n):=by rw[Nat.pow_mul]
 rw[e] at h1 h2
 exact⟨aj (by omega) _ _ h1,aj (by omega) _ _ h2⟩)
theorem zzg (q:Int × Int) (h:Fits q):(qf q).num*(if q.2=0 then 1 else q.2)=q.1*((qf q).den:Int):=by(
 obtain⟨f,r,x,y,-,hf,-⟩:=zkg q.1 q.2 h.1 h.2.1 h.2.2.1 h.2.2.2
 rw[← qgq f q hf]
 exact hf)
theorem qfj (z:Int) (w:World) (h1:-9223372036854775808≤z) (h2:z<9223372036854775808) :
  Calls prog 56 #[.int .i64 z] w fun e w'=>∃ zb,e=.returned (.pointer (some ⟨zb,0,none⟩))∧zx w' zb (((z:Int):Rat))∧But [] w w':=by
 obtain⟨i1,i2⟩:=bk z
 exact (zsc z w h1 h2).mono fun e w' ⟨zb,he,hb,hr⟩=>⟨zb,he,by unfold zx;rw[i1,i2];exact hr,hb⟩
theorem qjb (o u:Int) (f:Rat) (w:World) (ho1:-9223372036854775808≤o) (ho2:o<9223372036854775808) (hu1:-9223372036854775808≤u) (hu2:u<9223372036854775808) (hf:f.num*(if u=0 then 1 else u)=o*(f.den:Int)) :
  Calls prog 15 #[.agg #[.int .i64 o,.int .i64 u]] w fun e w'=>∃ zb,e=.returned (.pointer (some ⟨zb,0,none⟩))∧zx w' zb (f)∧But [] w w' :=
 (zvy o u f w ho1 ho2 hu1 hu2 hf).mono fun e w' ⟨zb,he,hb,hr,_⟩=>⟨zb,he,hr,hb⟩
theorem zez (b:Nat) (f:Rat) (w:World) (h:zx w b f) (s:Int) (hs:s=f.num.sign) (hl:zbn f 2000000) :
  Calls prog 95 #[.pointer (some ⟨b,0,none⟩)] w fun e w'=>e=.returned (.int .i64 s)∧But [] w w' :=
 (zqd b f.num (f.den:Int) w h s hs (by have:=hl.1;omega)).mono fun e w' ⟨he,hw⟩=>⟨he,by rw[hw];exact But.refl _ _⟩
theorem zbn.int {z:Int} (h:z.natAbs<18446744073709551616):zbn ((z:Int):Rat) 2:=by
 obtain⟨i1,i2⟩:=bk z
 exact⟨by rw[i1];exact xh _ h,by rw[i2];exact xh _ (by omega)⟩
end Go.Proofs.YtjlfllhedceigaaGreatDoor
