/- Rows of kinds, the program's and the ref -/
import Derived.Test.YtffghofheeleeaaGreatDoorKKLcqL
import Derived.Test.YtffghofheeleeaaGreatDoorKKLgqL
namespace Go.Proofs.YtffghofheeleeaaGreatDoor
open Go.Proofs.Tryz
open Go.RowKit
set_option maxHeartbeats 4000000
set_option linter.unusedVariables false
theorem qax (p1 p2 p3:List (Int × Int)) (n:Nat) (hn1:n≤p1.length) (hn2:n≤p2.length) (hn3:n≤p3.length) (hf1:∀ q ∈ p1,Fits q) (hf2:∀ q ∈ p2,Fits q) (hf3:∀ q ∈ p3,Fits q) :
  ∃ (R1:Nat→Bool) (X1 Y1:Nat→Int) (R2:Nat→Bool) (X2 Y2:Nat→Int) (R3:Nat→Bool) (X3 Y3:Nat→Int) (ks:List Kd),n=ks.length∧(∀ k,k<n→Len (ze ks k).ch 1)∧(∀ k,k<n→Len (ze ks k).me 1)∧(∀ k,k<n→Len (ze ks k).sp 1)
   ∧ (∀ i,i<n→∀ W,Calls prog 7 #[.agg #[.int .i64 (p1[i]?.getD (0,0)).1,.int .i64 (p1[i]?.getD (0,0)).2]] W fun e w'=>e=.returned (.agg #[.bool (R1 i),.int .u64 (X1 i),.int .u64 (Y1 i),.pointer none])∧But [] W w')
   ∧ (∀ i,i<n→∀ W,Calls prog 7 #[.agg #[.int .i64 (p2[i]?.getD (0,0)).1,.int .i64 (p2[i]?.getD (0,0)).2]] W fun e w'=>e=.returned (.agg #[.bool (R2 i),.int .u64 (X2 i),.int .u64 (Y2 i),.pointer none])∧But [] W w')
   ∧ (∀ i,i<n→∀ W,Calls prog 7 #[.agg #[.int .i64 (p3[i]?.getD (0,0)).1,.int .i64 (p3[i]?.getD (0,0)).2]] W fun e w'=>e=.returned (.agg #[.bool (R3 i),.int .u64 (X3 i),.int .u64 (Y3 i),.pointer none])∧But [] W w')
   ∧ (∀ i,i<n→ze ks i=⟨qf (p1[i]?.getD (0,0)),qf (p2[i]?.getD (0,0)),qf (p3[i]?.getD (0,0))⟩)
   ∧ ∀ B W a c,W.ownsRow B 45 12 (.slice a n c) n ((List.range n).flatMap fun i=>[.bool (R1 i),.int .u64 (X1 i),.int .u64 (Y1 i),.pointer none,.bool (R2 i),.int .u64 (X2 i),.int .u64 (Y2 i),.pointer none,.bool (R3 i),.int .u64 (X3 i),.int .u64 (Y3 i),.pointer none])→nu W (.slice a n c) ks:=by
 obtain⟨R1,X1,Y1,V1⟩:=chF p1 hf1
 obtain⟨R2,X2,Y2,V2⟩:=chF p2 hf2
 obtain⟨R3,X3,Y3,V3⟩:=chF p3 hf3
 have hg:∀ i,i<n→((List.range n).map fun i=>Kd.mk (qf (p1[i]?.getD (0,0))) (qf (p2[i]?.getD (0,0))) (qf (p3[i]?.getD (0,0))))[i]? = some ⟨qf (p1[i]?.getD (0,0)),qf (p2[i]?.getD (0,0)),qf (p3[i]?.getD (0,0))⟩:=fun i hi=>by
  rw[List.getElem?_map,List.getElem?_range hi];rfl
 have hA:∀ i,i<n→ze ((List.range n).map fun i=>Kd.mk (qf (p1[i]?.getD (0,0))) (qf (p2[i]?.getD (0,0))) (qf (p3[i]?.getD (0,0)))) i=⟨qf (p1[i]?.getD (0,0)),qf (p2[i]?.getD (0,0)),qf (p3[i]?.getD (0,0))⟩:=fun i hi=>by
  unfold ze
  rw[hg i hi];rfl
 refine⟨R1,X1,Y1,R2,X2,Y2,R3,X3,Y3,(List.range n).map fun i=>Kd.mk (qf (p1[i]?.getD (0,0))) (qf (p2[i]?.getD (0,0))) (qf (p3[i]?.getD (0,0))),by simp,fun k hk=>?_,fun k hk=>?_,fun k hk=>?_,fun i hi=>(V1 i (by omega)).2.2,fun i hi=>(V2 i (by omega)).2.2,fun i hi=>(V3 i (by omega)).2.2,hA,fun B W a c ho=>?_⟩
 ·rw[hA k hk];exact (V1 k (by omega)).1
 ·rw[hA k hk];exact (V2 k (by omega)).1
 ·rw[hA k hk];exact (V3 k (by omega)).1
 ·have hl:((List.range n).map fun i=>Kd.mk (qf (p1[i]?.getD (0,0))) (qf (p2[i]?.getD (0,0))) (qf (p3[i]?.getD (0,0)))).length=n:=by simp
  have hcap:n≤c:=by
   rcases ho.2 with ⟨h1,h2⟩|⟨g,cap,cur,h1,-,-,h2,-⟩
   ·simp only[Value.slice.injEq] at h1
    omega
   ·simp only[Value.slice.injEq] at h1
    omega
  refine⟨a,c,by rw[hl],by rw[hl];exact hcap,fun i k hk=>?_⟩
  have hi:i<n:=by
   have:=(List.getElem?_eq_some_iff.1 hk).1
   rw[hl] at this
   exact this
  rw[hg i hi] at hk
  obtain rfl:=Option.some.inj hk
  have hfl:=flat_get (fun i=>[.bool (R1 i),.int .u64 (X1 i),.int .u64 (Y1 i),.pointer none,.bool (R2 i),.int .u64 (X2 i),.int .u64 (Y2 i),.pointer none,.bool (R3 i),.int .u64 (X3 i),.int .u64 (Y3 i),.pointer none]) (fun _=>rfl) n i
  rcases ho.2 with ⟨h1,h2⟩|⟨g,cap,cur,h1,-⟩
  ·omega
  ·simp only[Value.slice.injEq] at h1
   obtain⟨rfl,-,-⟩:=h1
   have hcell:∀ r v,r<12→([.bool (R1 i),.int .u64 (X1 i),.int .u64 (Y1 i),.pointer none,.bool (R2 i),.int .u64 (X2 i),.int .u64 (Y2 i),.pointer none,.bool (R3 i),.int .u64 (X3 i),.int .u64 (Y3 i),.pointer none]:List Value)[r]? = some v→W.cell? ⟨g,i*12+r,none⟩=some v:=fun r v hr hv=>by
    rw[ho.cellAt (i*12+r) (by omega)]
    exact (hfl r hi hr).trans hv
   refine⟨g,0,rfl,R1 i,X1 i,Y1 i,none,R2 i,X2 i,Y2 i,none,R3 i,X3 i,Y3 i,none,?_,(V1 i (by omega)).2.1,(V2 i (by omega)).2.1,(V3 i (by omega)).2.1⟩
   rw[Nat.zero_add]
   exact⟨⟨hcell 0 _ (by omega) rfl,hcell 1 _ (by omega) rfl,hcell 2 _ (by omega) rfl,hcell 3 _ (by omega) rfl⟩,⟨hcell 4 _ (by omega) rfl,hcell 5 _ (by omega) rfl,hcell 6 _ (by omega) rfl,hcell 7 _ (by omega) rfl⟩,hcell 8 _ (by omega) rfl,hcell 9 _ (by omega) rfl,hcell 10 _ (by omega) rfl,hcell 11 _ (by omega) rfl⟩
theorem za.jae {w w':World} {b g:Nat} {f:Rat} {s:Bool} {x:Int} (h:za w b f) (hb:But [g] w w') (hc:w.cell? ⟨g,0,none⟩=some (.bool s)) (hc1:w.cell? ⟨g,1,none⟩=some (.int .u64 x)):za w' b f:=by
 have hn:b≠g:=fun e=>by
  subst e
  obtain⟨-,v,h1,a,cap,rfl,-⟩:=h.up
  have h2:w.cell? ⟨b,1,none⟩=some (.slice a _ cap):=h1
  rw[hc1] at h2
  simp at h2
 have one:∀ {o:Nat} {z:Int},zh w b o z→zh w' b o z:=fun h=>by
  obtain⟨h0,v,h1,h2⟩:=h
  exact⟨hb.ag h0 (by simpa using hn),v,hb.ag h1 (by simpa using hn),h2.over hb hc (fun n e=>by simp at e)⟩
 exact⟨one h.up,one h.low,h.sa.but hb (by simpa using hn),h.sb.but hb (by simpa using hn)⟩
theorem qrb:∃ i,prog.info? 47 = some i∧i.zero=some (.agg #[.pointer none,.pointer none,.pointer none])∧i.size=3∧i.bytes=24:=by
 have h:(prog.info? 47).map (fun i=>(i.zero,i.size,i.bytes))=some (some (.agg #[.pointer none,.pointer none,.pointer none]),3,24):=by kernel_rfl
 cases e:prog.info? 47 with
 | none=>rw[e] at h;simp at h
 | some i =>
  rw[e] at h
  simp only[Option.map_some,Option.some.injEq,Prod.mk.injEq] at h
  exact⟨i,rfl,h.1,h.2.1,h.2.2⟩
structure zmn (w:World) (base:Nat) (v:Value) (k:Nat) (ks:List Kd) (us:List Value):Prop where
 own:w.ownsRow base 47 3 v k us
 len:us.length=k*3
 val:∀ i,i<k→∃ g1 g2 g3,us[i*3]? = some (.pointer (some ⟨g1,0,none⟩))∧us[i*3+1]? = some (.pointer (some ⟨g2,0,none⟩))∧us[i*3+2]? = some (.pointer (some ⟨g3,0,none⟩))∧za w g1 (ze ks i).ch∧za w g2 (ze ks i).me∧za w g3 (ze ks i).sp
 nil:k=0→v=.slice none 0 0
theorem zmn.empty (w:World) (base:Nat) (ks:List Kd):zmn w base (.slice none 0 0) 0 ks []:=⟨World.ownsRow_nil _ _ _ _,rfl,fun i h=>by omega,fun _=>rfl⟩
theorem zmn.but {w w':World} {base:Nat} {v:Value} {k:Nat} {ks:List Kd} {us:List Value} (h:zmn w base v k ks us) (hb:But [] w w'):zmn w' base v k ks us :=
 ⟨mg h.own hb,h.len,fun i hi=>by
  obtain⟨g1,g2,g3,e1,e2,e3,r1,r2,r3⟩:=h.val i hi
  exact⟨g1,g2,g3,e1,e2,e3,r1.but hb,r2.but hb,r3.but hb⟩,h.nil⟩
theorem zmn.rk {w:World} {base:Nat} {v:Value} {ks:List Kd} {us:List Value} (h:zmn w base v ks.length ks us):zmm w v ks:=by
 rcases h.own.2 with ⟨e,h0⟩|⟨g,cap,cur,e,h1,h2,h3,-⟩
 ·subst e
  refine⟨none,0,by rw[← h0],by omega,fun i hi=>by omega⟩
 ·subst e
  refine⟨_,cap,rfl,h3,fun i hi=>?_⟩
  obtain⟨g1,g2,g3,e1,e2,e3,r1,r2,r3⟩:=h.val i hi
  refine⟨g,0,g1,g2,g3,rfl,?_,?_,?_,r1,r2,r3⟩
  ·rw[Nat.zero_add,h.own.cellAt (i*3) (by have:=h.len;omega)];exact e1
  ·rw[Nat.zero_add,h.own.cellAt (i*3+1) (by have:=h.len;omega)];exact e2
  ·rw[Nat.zero_add,h.own.cellAt (i*3+2) (by have:=h.len;omega)];exact e3
structure zny (G:Nat→List Value) (ks:List Kd) (wb:World) (i j:Nat) (x y:Value) (w:World):Prop where
 kinds:w.ownsRow wb.heap.size 45 12 x i ((List.range i).flatMap G)
 nil:i=0→x=.slice none 0 0
 refs:∃ us,zmn w wb.heap.size y j ks us
 but:But [] wb w
theorem zny.start (G:Nat→List Value) (ks:List Kd) (wb:World):zny G ks wb 0 0 (.slice none 0 0) (.slice none 0 0) wb:=⟨World.ownsRow_nil _ _ _ _,fun _=>rfl,⟨_,zmn.empty _ _ _⟩,But.refl _ _⟩
theorem zny.step {G:Nat→List Value} {ks:List Kd} {wb w w':World} {i j:Nat} {x y:Value} (h:zny G ks wb i j x y w) (hb:But [] w w'):zny G ks wb i j x y w' :=
 ⟨mg h.kinds hb,h.nil,h.refs.elim fun us hu=>⟨us,hu.but hb⟩,h.but.trans' hb⟩
theorem qfr {w w':World} {v:Value} (hg:w.grownBy w' v.ownBlock):But v.ownBlock.toList w w':=⟨hg.os,hg.tape,hg.output,hg.size,fun j hj hn=>hg.block j hj (by
  intro e
  rw[← e] at hn
  simp at hn)⟩
theorem zwu {G:Nat→List Value} {ks:List Kd} {wb wr:World} {k:Nat} {x y:Value} (h:zny G ks wb k k x y wr) (hG:∀ i,∃ (s:Bool) (x:Int),(G i)[0]? = some (.bool s)∧(G i)[1]? = some (.int .u64 x)∧(G i).length=12) (w:World) (hw:But [] wr w) (g:Nat) (s1:Bool) (x1 y1:Int) (p1:Option Addr) (s2:Bool) (x2 y2:Int) (p2:Option Addr) (s3:Bool) (x3 y3:Int) (p3:Option Addr) (eG:G k=[.bool s1,.int .u64 x1,.int .u64 y1,.pointer p1,.bool s2,.int .u64 x2,.int .u64 y2,.pointer p2,.bool s3,.int .u64 x3,.int .u64 y3,.pointer p3]) (c:zbl wr.heap.size w g [.bool s1,.int .u64 x1,.int .u64 y1,.pointer p1,.bool s2,.int .u64 x2,.int .u64 y2,.pointer p2,.bool s3,.int .u64 x3,.int .u64 y3,.pointer p3]) (hk:k<1000000) :
  ∃ v' w',(Builtin.append_ #[42,42] 42 #[x,.slice (some ⟨g,0,none⟩) 1 1]).run prog w=.ok v' w'∧zny G ks wb (k+1) k v' y w':=by
 replace h:=h.step hw
 have c12:K12 w g 0 s1 x1 y1 p1 s2 x2 y2 p2 s3 x3 y3 p3:=⟨⟨c.cells 0 _ rfl,c.cells 1 _ rfl,c.cells 2 _ rfl,c.cells 3 _ rfl⟩,⟨c.cells 4 _ rfl,c.cells 5 _ rfl,c.cells 6 _ rfl,c.cells 7 _ rfl⟩,c.cells 8 _ rfl,c.cells 9 _ rfl,c.cells 10 _ rfl,c.cells 11 _ rfl⟩
 obtain⟨v',w',hr,ho,hg⟩:=qbw w wb.heap.size x k _ h.kinds g s1 x1 y1 p1 s2 x2 y2 p2 s3 x3 y3 p3 c12 hk h.but.size
 have hB:=qfr hg
 have stay:∀ (b:Nat) (r:Rat),za w b r→za w' b r:=by
  by_cases h1:k=0
  ·have:x.ownBlock=none:=by rw[h.nil h1];rfl
   rw[this] at hB
   exact fun b r h=>h.but hB
  ·rcases h.kinds.2 with ⟨-,e⟩|⟨gb,cap,cur,e,-⟩
   ·omega
   ·have hl:=ziy G (fun i=>by obtain⟨_,_,-,-,e⟩:=hG i;omega)
    have hgt:=flat_get G (fun i=>by obtain⟨_,_,-,-,e⟩:=hG i;omega) k 0
    obtain⟨sb,xb,e0,e1,-⟩:=hG 0
    subst e
    have c0:w.cell? ⟨gb,0,none⟩=some (.bool sb):=by
     rw[h.kinds.cellAt 0 (by omega)]
     have:=hgt 0 (by omega) (by omega)
     exact this.trans e0
    have c1:w.cell? ⟨gb,1,none⟩=some (.int .u64 xb):=by
     rw[h.kinds.cellAt 1 (by omega)]
     have:=hgt 1 (by omega) (by omega)
     exact this.trans e1
    exact fun b r h=>h.jae hB c0 c1
 obtain⟨us,hu⟩:=h.refs
 refine⟨v',w',hr,?_,fun e=>by omega,⟨us,hu.own.kept hg (zar hu.own h.kinds (by decide)),hu.len,fun i hi=>?_,hu.nil⟩,wo h.but h.kinds (Nat.le_refl _) hg⟩
 ·rw[List.range_succ,List.flatMap_append,List.flatMap_singleton,eG]
  exact ho
 ·obtain⟨g1,g2,g3,e1,e2,e3,r1,r2,r3⟩:=hu.val i hi
  exact⟨g1,g2,g3,e1,e2,e3,stay _ _ r1,stay _ _ r2,stay _ _ r3⟩
theorem zwt {G:Nat→List Value} {ks:List Kd} {wb wr:World} {k i:Nat} {x y:Value} (h:zny G ks wb i k x y wr) (w:World) (hw:But [] wr w) (t:Nat × Nat × Nat × Nat) (c:zjy wr.heap.size (ze ks k).ch (ze ks k).me (ze ks k).sp w t) (hk:k<1000000) :
  ∃ v' w',(Builtin.append_ #[43,43] 43 #[y,.slice (some ⟨t.1,0,none⟩) 1 1]).run prog w=.ok v' w'∧zny G ks wb i (k+1) x v' w':=by
 replace h:=h.step hw
 obtain⟨us,hu⟩:=h.refs
 obtain⟨i0,hi,hz0,hz1,hz2⟩:=qrb
 obtain⟨v',w',hr,ho,hg,-⟩:=run_append_own (P:=prog) w wb.heap.size 43 43 47 i0 _ 3 24 underlying43 hi hz0 hz1 hz2 rfl (by decide) y k us hu.own ⟨t.1,0,none⟩ 1 1 [.pointer (some ⟨t.2.1,0,none⟩),.pointer (some ⟨t.2.2.1,0,none⟩),.pointer (some ⟨t.2.2.2,0,none⟩)] rfl (fun j u hj=>by
   have:j=0∨j=1∨j=2∨3≤j:=by omega
   rcases this with rfl|rfl|rfl | h3
   ·simp at hj;subst hj;exact c.box.cells 0 _ rfl
   ·simp at hj;subst hj;exact c.box.cells 1 _ rfl
   ·simp at hj;subst hj;exact c.box.cells 2 _ rfl
   ·rw[List.getElem?_eq_none (by simpa using h3)] at hj;simp at hj) (fun u hu=>by
   simp only[List.mem_cons,List.not_mem_nil,or_false] at hu
   rcases hu with rfl|rfl|rfl <;> rfl) (by unfold maxLen;omega) (by omega) h.but.size
 have hB:=qfr hg
 have stay:∀ (b:Nat) (r:Rat),za w b r→za w' b r:=by
  by_cases h1:k=0
  ·have:y.ownBlock=none:=by rw[hu.nil h1];rfl
   rw[this] at hB
   exact fun b r h=>h.but hB
  ·rcases hu.own.2 with ⟨-,e⟩|⟨gb,cap,cur,e,-⟩
   ·omega
   ·obtain⟨g1,g2,g3,e1,-⟩:=hu.val 0 (by omega)
    subst e
    have c0:w.cell? ⟨gb,0,none⟩=some (.pointer (some ⟨g1,0,none⟩)):=by
     rw[hu.own.cellAt 0 (by have:=hu.len;omega)]
     exact e1
    exact fun b r h=>h.zjq hB c0 (zni _)
 refine⟨v',w',hr,h.kinds.kept hg (zar h.kinds hu.own (by decide)),h.nil,⟨_,ho,by rw[List.length_append,hu.len];show _+3=_;omega,fun j hj=>?_,fun e=>by omega⟩,wo h.but hu.own (Nat.le_refl _) hg⟩
 rcases Nat.lt_or_ge j k with hlt | hge
 ·obtain⟨g1,g2,g3,e1,e2,e3,r1,r2,r3⟩:=hu.val j hlt
  have hl:=hu.len
  exact⟨g1,g2,g3,by rw[List.getElem?_append_left (by omega)];exact e1,by rw[List.getElem?_append_left (by omega)];exact e2,by rw[List.getElem?_append_left (by omega)];exact e3,stay _ _ r1,stay _ _ r2,stay _ _ r3⟩
 ·obtain rfl:j=k:=by omega
  have hl:=hu.len
  exact⟨t.2.1,t.2.2.1,t.2.2.2,by rw[List.getElem?_append_right (by omega),hl,Nat.sub_self];rfl,by rw[List.getElem?_append_right (by omega),hl,show j*3+1-j*3=1 by omega];rfl,by rw[List.getElem?_append_right (by omega),hl,show j*3+2-j*3=2 by omega];rfl,stay _ _ c.one,stay _ _ c.two,stay _ _ c.three⟩
end Go.Proofs.YtffghofheeleeaaGreatDoor
