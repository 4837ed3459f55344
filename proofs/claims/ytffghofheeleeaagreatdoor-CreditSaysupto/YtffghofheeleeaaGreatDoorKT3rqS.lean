/- Rows of a call's own stay, and what is k -/
import Derived.Test.YtffghofheeleeaaGreatDoorKK1rqS
namespace Go.Proofs.YtffghofheeleeaaGreatDoor
open Go.Proofs.Tryz
open Go.RowKit
set_option maxHeartbeats 8000000
set_option maxRecDepth 100000
set_option linter.unusedVariables false
theorem ownsRow_form {w:World} {base:Nat} {e:TypeId} {size:Nat} {v:Value} {n:Nat} {xs:List Value} (h:w.ownsRow base e size v n xs):∃ a c,v=.slice a n c:=by
 rcases h.2 with ⟨rfl,h0⟩|⟨g,cap,cur,rfl,-⟩
 ·exact⟨none,0,by rw[h0]⟩
 ·exact⟨_,_,rfl⟩
theorem wo {w0 w w':World} {base:Nat} {e:TypeId} {size:Nat} {v:Value} {n:Nat} {xs:List Value} (h:But [] w0 w) (ho:w.ownsRow base e size v n xs) (hb:w0.heap.size≤base) (hg:w.grownBy w' v.ownBlock):But [] w0 w' :=
 ⟨hg.os.trans h.os,hg.tape.trans h.tape,hg.output.trans h.output,Nat.le_trans h.size hg.size,fun k hk _=>by
  rw[hg.block k (Nat.lt_of_lt_of_le hk h.size) (fun e=>by have:=(ho.lt k e.symm).1;omega)]
  exact h.block k hk (by simp)⟩
theorem mg {w w':World} {base:Nat} {e:TypeId} {size:Nat} {v:Value} {n:Nat} {xs:List Value} (h:w.ownsRow base e size v n xs) (hb:But [] w w'):w'.ownsRow base e size v n xs :=
 h.kept (row:=none) ⟨hb.os,hb.tape,hb.output,hb.size,fun k hk _=>hb.block k hk (by simp)⟩ (by
  by_cases h0:v.ownBlock=none
  ·exact .inl h0
  ·exact .inr h0)
theorem zlk {w:World} {b0 b1:Nat} {e:TypeId} {size:Nat} {v:Value} {n:Nat} {xs:List Value} (h:w.ownsRow b1 e size v n xs) (hb:b0≤b1):w.ownsRow b0 e size v n xs:=by
 refine⟨h.1,?_⟩
 rcases h.2 with h|⟨g,cap,cur,e1,h2,h3⟩
 ·exact .inl h
 ·exact .inr ⟨g,cap,cur,e1,Nat.le_trans hb h2,h3⟩
theorem zar {w:World} {b0 b1:Nat} {e0 e1:TypeId} {s0 s1:Nat} {u v:Value} {n m:Nat} {xs ys:List Value} (h0:w.ownsRow b0 e0 s0 u n xs) (h1:w.ownsRow b1 e1 s1 v m ys) (hne:e0≠e1):u.ownBlock=none∨u.ownBlock≠v.ownBlock:=by
 rcases h0.2 with ⟨rfl,-⟩|⟨g,cap,cur,rfl,-,hg,-⟩
 ·exact .inl rfl
 ·rcases h1.2 with ⟨rfl,-⟩|⟨g',cap',cur',rfl,-,hg',-⟩
  ·exact .inr (by simp[Value.ownBlock])
  ·refine .inr (fun e=>hne ?_)
   simp only[Value.ownBlock,Option.some.injEq] at e
   subst e
   rw[hg] at hg'
   simp only[Option.some.injEq,Obj.cells.injEq] at hg'
   exact hg'.2.1
theorem zzf (v:Value) (qs:List (Int × Int)) (w:World) (hq:zee w v qs) (hf:∀ q ∈ qs,Fits q) (hn:qs.length≤1000) :
  Calls prog 66 #[v] w fun e w'=>∃ v' vs,e=.returned v'∧zsy w' w.heap.size 27 v' (qs.map qf) vs∧But [] w w':=by
 obtain⟨a,cap,rfl,hcap,hc⟩:=hq
 obtain⟨R,X,Y,hV⟩:∃ (R:Nat→Bool) (X Y:Nat→Int),∀ i,i<qs.length→(∀ W,aq W (.agg #[.bool (R i),.int .u64 (X i),.int .u64 (Y i),.pointer none]) (qf (qs[i]?.getD (0,0))))∧∀ W,Calls prog 7 #[.agg #[.int .i64 (qs[i]?.getD (0,0)).1,.int .i64 (qs[i]?.getD (0,0)).2]] W fun e w'=>e=.returned (.agg #[.bool (R i),.int .u64 (X i),.int .u64 (Y i),.pointer none])∧But [] W w':=by
  have h:∀ i,∃ t:Bool × Int × Int,i<qs.length→(∀ W,aq W (.agg #[.bool t.1,.int .u64 t.2.1,.int .u64 t.2.2,.pointer none]) (qf (qs[i]?.getD (0,0))))∧∀ W,Calls prog 7 #[.agg #[.int .i64 (qs[i]?.getD (0,0)).1,.int .i64 (qs[i]?.getD (0,0)).2]] W fun e w'=>e=.returned (.agg #[.bool t.1,.int .u64 t.2.1,.int .u64 t.2.2,.pointer none])∧But [] W w':=fun i=>by
   by_cases hi:i<qs.length
   ·rw[List.getElem?_eq_getElem hi]
    obtain⟨r,x,y,-,h1,h2⟩:=zcl qs[i] (hf _ (List.getElem_mem hi))
    exact⟨(r,x,y),fun _=>⟨h1,h2⟩⟩
   ·exact⟨(false,0,0),fun h=>absurd h hi⟩
  obtain⟨t,ht⟩:=Classical.axiomOfChoice h
  exact⟨fun i=>(t i).1,fun i=>(t i).2.1,fun i=>(t i).2.2,ht⟩
 have hcell:∀ i,i<qs.length→∃ b off,a=some ⟨b,off,none⟩∧w.cell? ⟨b,off+i*2,none⟩=some (.int .i64 (qs[i]?.getD (0,0)).1)∧w.cell? ⟨b,off+i*2+1,none⟩=some (.int .i64 (qs[i]?.getD (0,0)).2):=fun i hi=>by
  rw[List.getElem?_eq_getElem hi]
  exact hc i _ (List.getElem?_eq_getElem hi)
 have hmap:∀ i,(qs.map qf)[i]? = (qs[i]?).map qf:=fun i=>List.getElem?_map ..
 have HM:=af hmap
 have HC:=af hcell
 have HV:=af hV
 clear hmap hcell hV hc hf
 obtain⟨n,hnn⟩:∃ n,n=qs.length:=⟨_,rfl⟩
 have HN:=af hnn
 rw[← hnn] at hn hcap HC HV
 rw[← hnn]
 clear hnn
 go_enter func66,ntmps66
 go_wp2
 go_loopw [3,8] (fun o i wr=>∃ k:Nat,k≤n∧i=.int .i64 (k:Int)∧Hid (wr.ownsRow w.heap.size 27 4 o k (zcm ((List.range k).map fun i=>.agg #[.bool (R i),.int .u64 (X i),.int .u64 (Y i),.pointer none]))∧But [] w wr)) (fun _ i _=>n-(intOf i).toNat)
 case atStart=>exact⟨0,Nat.zero_le _,rfl,World.ownsRow_nil _ _ _ _,But.refl _ _⟩
 case round =>
  obtain⟨k,hk,rfl,HI⟩:=hrel
  rename World=>wr
  by_cases hlt:k<n
  ·obtain⟨b,off,rfl,c0,c1⟩:=ae HC k hlt
   have c0':=(ae HI).2.ag c0 (by simp)
   have c1':=(ae HI).2.ag c1 (by simp)
   obtain⟨hva,hvb⟩:=ae HV k hlt
   have PF:=af hvb
   clear hva hvb c0 c1
   generalize (qs[k]?.getD (0,0)).1=q1 at *
   generalize (qs[k]?.getD (0,0)).2=q2 at *
   have ba:=(But.refl [] wr).alloc (.cells #[.int .i64 q1,.int .i64 q2] 23)
   have BA:=af ba
   clear ba
   go_wp2_with fail
   refine (ae PF _).mono ?_
   rintro e w1 ⟨rfl,hb1⟩
   have B1:Hid (But [] wr w1):=(ae BA).trans' hb1
   clear hb1
   obtain⟨V,hV⟩:∃ V,V=w1.alloc (.cells #[.bool (R k),.int .u64 (X k),.int .u64 (Y k),.pointer none] 27):=⟨_,rfl⟩
   have cc:P4 V w1.heap.size (R k) (X k) (Y k) none:=by rw[hV];exact⟨by simp,by simp,by simp,by simp⟩
   have bV:But [] wr V:=(ae B1).trans' (by rw[hV];exact (But.refl _ _).alloc _)
   have oV:=mg (ae HI).1 bV
   obtain⟨v',w',hr,ho,hg⟩:=qbx V w.heap.size u3 k _ oV w1.heap.size _ _ _ _ cc (by omega) ((ae HI).2.trans' bV).size
   have BF:Hid (But [] w w'):=wo ((ae HI).2.trans' bV) oV (Nat.le_refl _) hg
   have HO:=af ho
   rw[hV] at hr
   have HR:=af hr
   clear hr ho hg oV bV cc hV
   go_wp2_with (at_builtin;refine qw rfl _ _ 62 62 rfl _ _ v' w' rfl rfl (ae HR) ?_)
   refine⟨⟨k+1,by omega,by go_num,by rw[List.range_succ,List.map_append];exact ae HO,ae BF⟩,by simp[intOf];omega⟩
  ·obtain rfl:k=n:=by omega
   obtain⟨a',c',rfl⟩:=ownsRow_form (ae HI).1
   go_wp2
   go_ret
   have hlen:(qs.map qf).length=k:=by rw[List.length_map];exact (ae HN).symm
   refine⟨_,_,rfl,⟨by rw[hlen];exact (ae HI).1,by simp[hlen],fun i f hi=>?_⟩,(ae HI).2⟩
   have hik:i<k:=by rw[← hlen];exact (List.getElem?_eq_some_iff.1 hi).1
   refine⟨_,_,_,_,by rw[List.getElem?_map,List.getElem?_range hik];rfl,?_⟩
   have h1:=(ae HV i hik).1 wr
   rw[ae HM i] at hi
   cases hq:qs[i]? with
   | none=>rw[hq] at hi;simp at hi
   | some q =>
    rw[hq] at hi h1
    simp only[Option.map_some,Option.some.injEq] at hi
    rw[← hi]
    exact h1
theorem qnw:∃ i,prog.info? 62 = some i∧i.zero=some (.slice none 0 0)∧i.size=1∧i.bytes=24:=by
 have h:(prog.info? 62).map (fun i=>(i.zero,i.size,i.bytes))=some (some (.slice none 0 0),1,24):=by kernel_rfl
 cases e:prog.info? 62 with
 | none=>rw[e] at h;simp at h
 | some i =>
  rw[e] at h
  simp only[Option.map_some,Option.some.injEq,Prod.mk.injEq] at h
  exact⟨i,rfl,h.1,h.2.1,h.2.2⟩
def wu (w:World) (v:Value) (ls:List (List Rat)):Prop:=∃ a cap,v=.slice a ls.length cap∧ls.length≤cap∧∀ i l,ls[i]? = some l→∃ b off u,a=some ⟨b,off,none⟩∧w.cell? ⟨b,off+i,none⟩=some u∧au w u l
theorem wu.but {w w':World} {v:Value} {ls:List (List Rat)} (h:wu w v ls) (hb:But [] w w'):wu w' v ls:=by
 obtain⟨a,cap,e,hc,h⟩:=h
 refine⟨a,cap,e,hc,fun i l hl=>?_⟩
 obtain⟨b,off,u,e1,h1,h2⟩:=h i l hl
 exact⟨b,off,u,e1,hb.ag h1 (by simp),h2.but hb⟩
theorem wu.get {w:World} {q:Option Addr} {n cap:Nat} {ls:List (List Rat)} (h:wu w (.slice q n cap) ls) (i:Nat) (hi:i<ls.length):∃ b off u,q=some ⟨b,off,none⟩∧w.cell? ⟨b,off+i,none⟩=some u∧au w u (ls[i]?.getD []):=by
 obtain⟨a,cap',e,-,h⟩:=h
 simp only[Value.slice.injEq] at e
 obtain⟨rfl,rfl,-⟩:=e
 obtain⟨b,off,u,e1,h1,h2⟩:=h i ls[i] (List.getElem?_eq_getElem hi)
 exact⟨b,off,u,e1,h1,by rw[List.getElem?_eq_getElem hi];exact h2⟩
def zeg (f1 f2 f3 f4:Rat) (B n:Nat) (F:Nat→Rat) (w:World) (v:Value):Prop:=∃ s1 x1 y1 p1 s2 x2 y2 p2 s3 x3 y3 p3 s4 x4 y4 p4 g,v=.agg #[.bool s1,.int .u64 x1,.int .u64 y1,.pointer p1,.bool s2,.int .u64 x2,.int .u64 y2,.pointer p2,.bool s3,.int .u64 x3,.int .u64 y3,.pointer p3,.bool s4,.int .u64 x4,.int .u64 y4,.pointer p4,.slice (some ⟨g,0,none⟩) n n]∧aq w (.agg #[.bool s1,.int .u64 x1,.int .u64 y1,.pointer p1]) f1∧aq w (.agg #[.bool s2,.int .u64 x2,.int .u64 y2,.pointer p2]) f2∧aq w (.agg #[.bool s3,.int .u64 x3,.int .u64 y3,.pointer p3]) f3∧aq w (.agg #[.bool s4,.int .u64 x4,.int .u64 y4,.pointer p4]) f4∧je w g n F∧B≤g∧g<w.heap.size
theorem zeg.but {f1 f2 f3 f4:Rat} {B n:Nat} {F:Nat→Rat} {w w':World} {v:Value} (h:zeg f1 f2 f3 f4 B n F w v) (hb:But [] w w'):zeg f1 f2 f3 f4 B n F w' v:=by
 obtain⟨s1,x1,y1,p1,s2,x2,y2,p2,s3,x3,y3,p3,s4,x4,y4,p4,g,e,h1,h2,h3,h4,hr,hg1,hg2⟩:=h
 exact⟨s1,x1,y1,p1,s2,x2,y2,p2,s3,x3,y3,p3,s4,x4,y4,p4,g,e,h1.but hb,h2.but hb,h3.but hb,h4.but hb,hr.but hb hg2,hg1,Nat.lt_of_lt_of_le hg2 hb.size⟩
theorem zte (a:Act) (w:World) (d t1 t2 t3 t4 tr:Nat) (u:TypeId) (ps:String) (ed:Array Edge) (gd:Option (Nat × Bool)) (s1:Bool) (x1 y1:Int) (p1:Option Addr) (s2:Bool) (x2 y2:Int) (p2:Option Addr) (s3:Bool) (x3 y3:Int) (p3:Option Addr) (s4:Bool) (x4 y4:Int) (p4:Option Addr) (g n:Nat) (h1:a.eval (.tmp t1)=.agg #[.bool s1,.int .u64 x1,.int .u64 y1,.pointer p1]) (h2:a.eval (.tmp t2)=.agg #[.bool s2,.int .u64 x2,.int .u64 y2,.pointer p2]) (h3:a.eval (.tmp t3)=.agg #[.bool s3,.int .u64 x3,.int .u64 y3,.pointer p3]) (h4:a.eval (.tmp t4)=.agg #[.bool s4,.int .u64 x4,.int .u64 y4,.pointer p4]) (hr:a.eval (.tmp tr)=.slice (some ⟨g,0,none⟩) n n) :
  (execOp a.eval { dst:=some d,op:=Op.build 64 #[(0,Operand.tmp t1),(1,Operand.tmp t2),(2,Operand.tmp t3),(3,Operand.tmp t4),(4,Operand.tmp tr)],type:=u,pos:=ps,after:=ed,guard:=gd }).run prog w=.ok (.value (.agg #[.bool s1,.int .u64 x1,.int .u64 y1,.pointer p1,.bool s2,.int .u64 x2,.int .u64 y2,.pointer p2,.bool s3,.int .u64 x3,.int .u64 y3,.pointer p3,.bool s4,.int .u64 x4,.int .u64 y4,.pointer p4,.slice (some ⟨g,0,none⟩) n n])) w:=by
 unfold execOp
 simp only[List.map_toArray,List.map_cons,List.map_nil,h1,h2,h3,h4,hr]
 go_simp
theorem ztc (a:Act) (w:World) (t1 t2:Nat) (u:TypeId) (ps:String) (ed:Array Edge) (gb:Nat) (s1:Bool) (x1 y1:Int) (p1:Option Addr) (s2:Bool) (x2 y2:Int) (p2:Option Addr) (s3:Bool) (x3 y3:Int) (p3:Option Addr) (s4:Bool) (x4 y4:Int) (p4:Option Addr) (g n:Nat) {vb:List Value} (h1:a.eval (.tmp t1)=.pointer (some ⟨gb,0,none⟩)) (h2:a.eval (.tmp t2)=.agg #[.bool s1,.int .u64 x1,.int .u64 y1,.pointer p1,.bool s2,.int .u64 x2,.int .u64 y2,.pointer p2,.bool s3,.int .u64 x3,.int .u64 y3,.pointer p3,.bool s4,.int .u64 x4,.int .u64 y4,.pointer p4,.slice (some ⟨g,0,none⟩) n n]) (hc:xg w gb vb) (hl:vb.length=17) :
  (execOp a.eval { dst:=none,op:=Op.store 64 (.tmp t1) (.tmp t2),type:=u,pos:=ps,after:=ed,guard:=none }).run prog w=.ok .skip (w.setCells gb 0 [.bool s1,.int .u64 x1,.int .u64 y1,.pointer p1,.bool s2,.int .u64 x2,.int .u64 y2,.pointer p2,.bool s3,.int .u64 x3,.int .u64 y3,.pointer p3,.bool s4,.int .u64 x4,.int .u64 y4,.pointer p4,.slice (some ⟨g,0,none⟩) n n]):=by
 obtain⟨u0,c0⟩:=hc.some 0 (by omega)
 obtain⟨u1,c1⟩:=hc.some 1 (by omega)
 obtain⟨u2,c2⟩:=hc.some 2 (by omega)
 obtain⟨u3,c3⟩:=hc.some 3 (by omega)
 obtain⟨u4,c4⟩:=hc.some 4 (by omega)
 obtain⟨u5,c5⟩:=hc.some 5 (by omega)
 obtain⟨u6,c6⟩:=hc.some 6 (by omega)
 obtain⟨u7,c7⟩:=hc.some 7 (by omega)
 obtain⟨u8,c8⟩:=hc.some 8 (by omega)
 obtain⟨u9,c9⟩:=hc.some 9 (by omega)
 obtain⟨u10,c10⟩:=hc.some 10 (by omega)
 obtain⟨u11,c11⟩:=hc.some 11 (by omega)
 obtain⟨u12,c12⟩:=hc.some 12 (by omega)
 obtain⟨u13,c13⟩:=hc.some 13 (by omega)
 obtain⟨u14,c14⟩:=hc.some 14 (by omega)
 obtain⟨u15,c15⟩:=hc.some 15 (by omega)
 obtain⟨u16,c16⟩:=hc.some 16 (by omega)
 have fz:=hc.loose
 unfold execOp
 simp only[h1,h2]
 go_simp
 rfl
theorem zyl (a:Act) (w:World) (d t0:Nat) (u:TypeId) (ps:String) (ed:Array Edge) (gd:Option (Nat × Bool)) (z0:Value) (h0:a.eval (.tmp t0)=z0) :
  (execOp a.eval { dst:=some d,op:=Op.call { callee:=Callee.value (Operand.func 62),args:=#[Operand.tmp t0],argTypes:=#[62] },type:=u,pos:=ps,after:=ed,guard:=gd }).run prog w=.ok (.enter 62 #[z0]) w:=by
 unfold execOp
 go_simp
 rw[← h0]
 simp[Act.eval]
theorem zym (a:Act) (w:World) (d t0:Nat) (u:TypeId) (ps:String) (ed:Array Edge) (gd:Option (Nat × Bool)) (z0:Value) (h0:a.eval (.tmp t0)=z0) :
  (execOp a.eval { dst:=some d,op:=Op.call { callee:=Callee.value (Operand.func 64),args:=#[Operand.tmp t0],argTypes:=#[27] },type:=u,pos:=ps,after:=ed,guard:=gd }).run prog w=.ok (.enter 64 #[z0]) w:=by
 unfold execOp
 go_simp
 rw[← h0]
 simp[Act.eval]
theorem qgm (a:Act) (w:World) (d t0 t1 t2:Nat) (u:TypeId) (ps:String) (ed:Array Edge) (gd:Option (Nat × Bool)) (z0 z1 z2:Value) (h0:a.eval (.tmp t0)=z0) (h1:a.eval (.tmp t1)=z1) (h2:a.eval (.tmp t2)=z2) :
  (execOp a.eval { dst:=some d,op:=Op.call { callee:=Callee.value (Operand.func 65),args:=#[Operand.tmp t0,Operand.tmp t1,Operand.tmp t2],argTypes:=#[62,27,27] },type:=u,pos:=ps,after:=ed,guard:=gd }).run prog w=.ok (.enter 65 #[z0,z1,z2]) w:=by
 unfold execOp
 go_simp
 rw[← h0,← h1,← h2]
 simp[Act.eval]
theorem qkj (a:Act) (w:World) (d t:Nat) (u:TypeId) (ps:String) (ed:Array Edge) (gd:Option (Nat × Bool)) (q:Option Addr) (m c:Nat) (h:a.eval (.tmp t)=.slice q m c) :
  (execOp a.eval { dst:=some d,op:=Op.call { callee:=Callee.builtin Builtin.len,args:=#[Operand.tmp t],argTypes:=#[62] },type:=u,pos:=ps,after:=ed,guard:=gd }).run prog w=.ok (.value (.int .i64 (m:Int))) w:=by
 have h':a.tmps[t]?.getD undef=.slice q m c:=by rw[← Array.getD_eq_getD_getElem?];exact h
 unfold execOp
 go_simp
theorem zui (a:Act) (w:World) (d t:Nat) (u:TypeId) (ps:String) (ed:Array Edge) (gd:Option (Nat × Bool)) (q:Option Addr) (m c:Nat) (h:a.eval (.tmp t)=.slice q m c) :
  (execOp a.eval { dst:=some d,op:=Op.call { callee:=Callee.builtin Builtin.len,args:=#[Operand.tmp t],argTypes:=#[67] },type:=u,pos:=ps,after:=ed,guard:=gd }).run prog w=.ok (.value (.int .i64 (m:Int))) w:=by
 have h':a.tmps[t]?.getD undef=.slice q m c:=by rw[← Array.getD_eq_getD_getElem?];exact h
 unfold execOp
 go_simp
theorem qez (a:Act) (w:World) (d t:Nat) (u:TypeId) (ps:String) (ed:Array Edge) (gd:Option (Nat × Bool)) (n:Nat) (hn:n<1000000) (h:a.eval (.tmp t)=.int .i64 (n:Int)) :
  (execOp a.eval { dst:=some d,op:=Op.makeSlice 62 (.tmp t) (.tmp t),type:=u,pos:=ps,after:=ed,guard:=gd }).run prog w=.ok (.value (.slice (some ⟨w.heap.size,0,none⟩) n n)) (w.alloc (.cells (madeCells #[.bool false,.int .u64 0,.int .u64 0,.pointer none] (n*4)) 27)):=by
 have hmk:=zmt w n hn
 unfold execOp
 simp only[h]
 go_simp
theorem qkm (a:Act) (w:World) (d t1:Nat) (u:TypeId) (ps:String) (ed:Array Edge) (gd:Option (Nat × Bool)) (b off n c:Nat) (hn0:0<n) (_hn:n<1000000) (h1:a.eval (.tmp t1)=.slice (some ⟨b,off,none⟩) n c) :
  (execOp a.eval { dst:=some d,op:=Op.indexAddr 67 (.tmp t1) (Operand.const (Value.int IntKind.i64 0)),type:=u,pos:=ps,after:=ed,guard:=gd }).run prog w=.ok (.value (.pointer (some ⟨b,off,none⟩))) w:=by
 have e:a.eval (.const (.int .i64 0))=.int .i64 0:=rfl
 have hz:(0:Int)<(n:Int):=by omega
 unfold execOp
 simp only[h1,e]
 go_simp
def qwc:Oper:=⟨some 20,.move (.tmp 0),67, "credit.go:20",#[],none⟩
def qwb:Oper:=⟨some 21,.call { callee:=.builtin .len,args:=#[.tmp 20],argTypes:=#[67] },3, "credit.go:20",#[⟨0,.data⟩],none⟩
def qwa:Oper:=⟨some 22,.makeSlice 62 (.tmp 21) (.tmp 21),62, "credit.go:20",#[⟨1,.data⟩,⟨1,.data⟩],none⟩
def qvz:Oper:=⟨some 23,.move (.tmp 0),67, "credit.go:20",#[],none⟩
def qvy:Oper:=⟨some 24,.call { callee:=.builtin .len,args:=#[.tmp 23],argTypes:=#[67] },3, "credit.go:20",#[⟨3,.data⟩],none⟩
def qvx:Oper:=⟨some 25,.makeSlice 62 (.tmp 24) (.tmp 24),62, "credit.go:20",#[⟨4,.data⟩,⟨4,.data⟩],none⟩
def qvw:Oper:=⟨some 5,.assign (.tmp 22),62, "credit.go:20",#[⟨2,.data⟩,⟨0,.phase⟩,⟨1,.phase⟩,⟨2,.phase⟩,{ on:=3,ground:=.textOnly Departure.lateStores },{ on:=4,ground:=.textOnly Departure.lateStoresUnsure },{ on:=5,ground:=.textOnly Departure.lateStoresUnsure }],none⟩
def qvv:Oper:=⟨some 6,.assign (.tmp 25),62, "credit.go:20",#[⟨5,.data⟩,⟨6,.chain⟩,⟨0,.phase⟩,⟨1,.phase⟩,⟨2,.phase⟩,⟨3,.phase⟩,⟨4,.phase⟩,⟨5,.phase⟩,⟨6,.phase⟩],none⟩
def zlo:Array Oper:=#[qwc,qwb,qwa,qvz,qvy,qvx,qvw,qvv]
def zoj (i:Nat):Nat:=match i with
 | 0=>20
 | 1=>21
 | 2=>22
 | 3=>23
 | 4=>24
 | 5=>25
 | 6=>5
 | _=>6
def qvu (q:Option Addr) (n c:Nat) (N:Nat × Nat) (i:Nat):Value:=match i with
 | 0=>.slice q n c
 | 1=>.int .i64 (n:Int)
 | 2=>.slice (some ⟨N.1,0,none⟩) n n
 | 3=>.slice q n c
 | 4=>.int .i64 (n:Int)
 | 5=>.slice (some ⟨N.2,0,none⟩) n n
 | 6=>.slice (some ⟨N.1,0,none⟩) n n
 | _=>.slice (some ⟨N.2,0,none⟩) n n
structure jaj (W0:World) (n:Nat) (N:Nat × Nat) (a b:Bool) (w:World):Prop where
 but:But [] W0 w
 one:a=true→je w N.1 n (fun _=>0)∧W0.heap.size≤N.1∧N.1<w.heap.size
 two:b=true→je w N.2 n (fun _=>0)∧W0.heap.size≤N.2∧N.2<w.heap.size
 ne:a=true→b=true→N.1≠N.2
theorem qhl:∀ i j,i<8→j<8→zoj i=zoj j→i=j:=fun i j hi hj=>(by decide:∀ i,i<8→∀ j,j<8→zoj i=zoj j→i=j) i hi j hj
theorem zpy (id:Nat) (Q:Exit→Act→World→Prop) (base:Act) (W0:World) (q:Option Addr) (n c:Nat) (hn:n<1000000) (hs:25<base.tmps.size) (e0:base.eval (.tmp 0)=.slice q n c)
  (hQ:∀ w g1 g2,But [] W0 w→je w g1 n (fun _=>0)→je w g2 n (fun _=>0)→W0.heap.size≤g1→W0.heap.size≤g2→g1<w.heap.size→g2<w.heap.size→g1≠g2→Q .normal (bk base [(20,.slice q n c),(21,.int .i64 (n:Int)),(22,.slice (some ⟨g1,0,none⟩) n n),(23,.slice q n c),(24,.int .i64 (n:Int)),(25,.slice (some ⟨g2,0,none⟩) n n),(5,.slice (some ⟨g1,0,none⟩) n n),(6,.slice (some ⟨g2,0,none⟩) n n)]) w) :
  (Code.region id zlo true).wp prog Q base W0:=by
 have hT:∀ i,i<8→zoj i<base.tmps.size:=fun i hi=>by
  have h:zoj i≤25:=by revert i;decide
  omega
 refine zbs (by kernel_rfl) (xu (by kernel_rfl)) (zaw (by kernel_rfl)) (α:=Nat × Nat) (fun N d w=>jaj W0.drew n N (d 2) (d 5) w) (qvu q n c) zoj 8 (by kernel_rfl) qhl hT (0,0) ⟨But.refl _ _,fun h=>by simp at h,fun h=>by simp at h,fun h=>by simp at h⟩ ?_ ?_
 ·intro N d i o a w K hi ho hdi hcl hH he hdep hK
  have hD:=zco (ps:=[(1,0),(2,1),(4,3),(5,4),(6,2),(7,5)]) (by kernel_rfl) ho (fun j=>d j=true∧a.eval (.tmp (zoj j))=qvu q n c N j) hdep
  have h62:d 2=false→d 6=false:=fun h=>hcl.not (ps:=[(6,2)]) (by kernel_rfl) (by simp) h
  have h75:d 5=false→d 7=false:=fun h=>hcl.not (ps:=[(7,5)]) (by kernel_rfl) (by simp) h
  have e0':=(he 0 (fun j hj e=>absurd e.symm (by revert j;decide))).trans e0
  have keep:i≠2→i≠5→jaj W0.drew n N (came d i 2) (came d i 5) w:=fun h2 h5=>by rw[jh d (Ne.symm h2),jh d (Ne.symm h5)];exact hH
  have:i=0∨i=1∨i=2∨i=3∨i=4∨i=5∨i=6∨i=7:=by omega
  rcases this with rfl|rfl|rfl|rfl|rfl|rfl|rfl|rfl
  ·obtain rfl:=so (show zlo[0]? =some qwc from rfl) ho
   exact an (bz a w _ _ _ _ _ _ _ e0') (hK N _ _ rfl (fun _ _ _=>rfl) (keep (by decide) (by decide)))
  ·obtain rfl:=so (show zlo[1]? =some qwb from rfl) ho
   exact an (zui a w _ _ _ _ _ _ q n c (hD 0 (by simp)).2) (hK N _ _ rfl (fun _ _ _=>rfl) (keep (by decide) (by decide)))
  ·obtain rfl:=so (show zlo[2]? =some qwa from rfl) ho
   have bA:But [] w (w.alloc (.cells (madeCells #[.bool false,.int .u64 0,.int .u64 0,.pointer none] (n*4)) 27)):=(But.refl _ _).alloc _
   have hsz:=hH.but.size
   have hlast:=h62 hdi
   refine an (qez a w _ _ _ _ _ _ n hn (hD 1 (by simp)).2) (hK (w.heap.size,N.2) _ _ rfl (fun j hj hd'=>?_) ?_)
   ·have:j=0∨j=1∨j=2∨j=3∨j=4∨j=5∨j=6∨j=7:=by omega
    rcases this with rfl|rfl|rfl|rfl|rfl|rfl|rfl|rfl
    ·rfl
    ·rfl
    ·rw[hdi] at hd';simp at hd'
    ·rfl
    ·rfl
    ·rfl
    ·rw[hlast] at hd';simp at hd'
    ·rfl
   ·rw[ko,jh d (show (5:Nat)≠2 by decide)]
    refine⟨hH.but.trans' bA,fun _=>⟨je.made w n,hsz,by simp⟩,fun h=>?_,fun _ h=>?_⟩
    ·obtain⟨h1,h2,h3⟩:=hH.two h
     exact⟨h1.but bA h3,h2,Nat.lt_of_lt_of_le h3 bA.size⟩
    ·obtain⟨h1,h2,h3⟩:=hH.two h
     show w.heap.size≠N.2
     omega
  ·obtain rfl:=so (show zlo[3]? =some qvz from rfl) ho
   exact an (bz a w _ _ _ _ _ _ _ e0') (hK N _ _ rfl (fun _ _ _=>rfl) (keep (by decide) (by decide)))
  ·obtain rfl:=so (show zlo[4]? =some qvy from rfl) ho
   exact an (zui a w _ _ _ _ _ _ q n c (hD 3 (by simp)).2) (hK N _ _ rfl (fun _ _ _=>rfl) (keep (by decide) (by decide)))
  ·obtain rfl:=so (show zlo[5]? =some qvx from rfl) ho
   have bA:But [] w (w.alloc (.cells (madeCells #[.bool false,.int .u64 0,.int .u64 0,.pointer none] (n*4)) 27)):=(But.refl _ _).alloc _
   have hsz:=hH.but.size
   have hlast:=h75 hdi
   refine an (qez a w _ _ _ _ _ _ n hn (hD 4 (by simp)).2) (hK (N.1,w.heap.size) _ _ rfl (fun j hj hd'=>?_) ?_)
   ·have:j=0∨j=1∨j=2∨j=3∨j=4∨j=5∨j=6∨j=7:=by omega
    rcases this with rfl|rfl|rfl|rfl|rfl|rfl|rfl|rfl
    ·rfl
    ·rfl
    ·rfl
    ·rfl
    ·rfl
    ·rw[hdi] at hd';simp at hd'
    ·rfl
    ·rw[hlast] at hd';simp at hd'
   ·rw[ko,jh d (show (2:Nat)≠5 by decide)]
    refine⟨hH.but.trans' bA,fun h=>?_,fun _=>⟨je.made w n,hsz,by simp⟩,fun h _=>?_⟩
    ·obtain⟨h1,h2,h3⟩:=hH.one h
     exact⟨h1.but bA h3,h2,Nat.lt_of_lt_of_le h3 bA.size⟩
    ·obtain⟨h1,h2,h3⟩:=hH.one h
     show N.1≠w.heap.size
     omega
  ·obtain rfl:=so (show zlo[6]? =some qvw from rfl) ho
   exact an (zbr a w _ _ _ _ _ _ _ (hD 2 (by simp)).2) (hK N _ _ rfl (fun _ _ _=>rfl) (keep (by decide) (by decide)))
  ·obtain rfl:=so (show zlo[7]? =some qvv from rfl) ho
   exact an (zbr a w _ _ _ _ _ _ _ (hD 5 (by simp)).2) (hK N _ _ rfl (fun _ _ _=>rfl) (keep (by decide) (by decide)))
 ·intro N d w hd hH
  obtain⟨h1,h2,h3⟩:=hH.one (hd 2 (by omega))
  obtain⟨k1,k2,k3⟩:=hH.two (hd 5 (by omega))
  exact hQ w N.1 N.2 ((But.refl _ _).drew.trans' hH.but) h1 k1 h2 k2 h3 k3 (hH.ne (hd 2 (by omega)) (hd 5 (by omega)))
def qvt:Oper:=⟨some 48,.load 27 (.tmp 10),27, "credit.go:25",#[],none⟩
def qvs:Oper:=⟨some 49,.move (.tmp 0),67, "credit.go:25",#[],none⟩
def qvr:Oper:=⟨some 50,.indexAddr 67 (.tmp 49) (.const (.int .i64 0)),0, "credit.go:25",#[⟨1,.data⟩],none⟩
def qvq:Oper:=⟨some 51,.load 62 (.tmp 50),62, "credit.go:25",#[⟨2,.data⟩],none⟩
def qvp:Oper:=⟨some 52,.call { callee:=.builtin .len,args:=#[.tmp 51],argTypes:=#[62] },3, "credit.go:25",#[⟨3,.data⟩],none⟩
def qvo:Oper:=⟨some 53,.call { callee:=.value (.func 63),args:=#[.tmp 48,.tmp 52],argTypes:=#[27,3] },27, "credit.go:25",#[⟨0,.data⟩,⟨4,.data⟩],none⟩
def qvn:Oper:=⟨some 11,.alloc 27,0, "credit.go:25",#[],none⟩
def qvm:Oper:=⟨none,.store 27 (.tmp 11) (.tmp 53),0, "credit.go:25",#[⟨6,.data⟩,⟨5,.data⟩,⟨5,.chain⟩,⟨0,.phase⟩,⟨1,.phase⟩,⟨2,.phase⟩,⟨3,.phase⟩,⟨4,.phase⟩,⟨5,.phase⟩,⟨6,.phase⟩],none⟩
def ziq:Array Oper:=#[qvt,qvs,qvr,qvq,qvp,qvo,qvn,qvm]
def zln (i:Nat):Nat:=match i with
 | 0=>48
 | 1=>49
 | 2=>50
 | 3=>51
 | 4=>52
 | 5=>53
 | _=>11
def zzm (B:Nat) (gm:Nat) (off:Nat) (N:Nat) (cp:Nat) (q:Option Addr) (m:Nat) (c:Nat) (s1:Bool) (x1:Int) (y1:Int) (p1:Option Addr) (f1:Rat) (i:Nat) (w:World) (v:Value):Prop:=match i with
 | 0=>v=.agg #[.bool s1,.int .u64 x1,.int .u64 y1,.pointer p1]
 | 1=>v=.slice (some ⟨gm,off,none⟩) N cp
 | 2=>v=.pointer (some ⟨gm,off,none⟩)
 | 3=>v=.slice q m c
 | 4=>v=.int .i64 (m:Int)
 | 5=>aq w v (f1/(((m:Nat):Int):Rat))
 | _=>zdv B w v
theorem qhk {B:Nat} {gm:Nat} {off:Nat} {N:Nat} {cp:Nat} {q:Option Addr} {m:Nat} {c:Nat} {s1:Bool} {x1:Int} {y1:Int} {p1:Option Addr} {f1:Rat} {i:Nat} {w w':World} {v:Value} (h:zzm B gm off N cp q m c s1 x1 y1 p1 f1 i w v) (hi:i<7) (hb:But [] w w'):zzm B gm off N cp q m c s1 x1 y1 p1 f1 i w' v:=by
 have:i=0∨i=1∨i=2∨i=3∨i=4∨i=5∨i=6:=by omega
 rcases this with rfl|rfl|rfl|rfl|rfl|rfl|rfl
 all_goals first | exact h | exact aq.but h hb | exact au.but h hb | exact zdv.but h hb | exact aq.but h hb
theorem qhj:∀ i j,i<7→j<7→zln i=zln j→i=j:=fun i j hi hj=>(by decide:∀ i,i<7→∀ j,j<7→zln i=zln j→i=j) i hi j hj
theorem zxb (id:Nat) (Q:Exit→Act→World→Prop) (base:Act) (W0:World) (B:Nat) (gm:Nat) (off:Nat) (N:Nat) (cp:Nat) (q:Option Addr) (m:Nat) (c:Nat) (s1:Bool) (x1:Int) (y1:Int) (p1:Option Addr) (f1:Rat) (hs:53<base.tmps.size) (g10:Nat) (hBW:B≤W0.heap.size) (e10:base.eval (.tmp 10)=.pointer (some ⟨g10,0,none⟩)) (e0:base.eval (.tmp 0)=.slice (some ⟨gm,off,none⟩) N cp)
  (hN0:0<N) (hN2:N<1000000) (c1:P4 W0 g10 s1 x1 y1 p1) (cr:W0.cell? ⟨gm,off,none⟩=some (.slice q m c))
  (QU:∀ w,But [] W0 w→Calls prog 63 #[.agg #[.bool s1,.int .u64 x1,.int .u64 y1,.pointer p1],.int .i64 (m:Int)] w fun e w'=>∃ v,e=.returned v∧aq w' v (f1/(((m:Nat):Int):Rat))∧But [] w w')
  (hQ:∀ w1 bn s' x' y' p',But [] W0 w1→B≤bn→P4 w1 bn false 0 0 none→(∀ j,w1.frozen? ⟨bn,j,none⟩=false)→aq w1 (.agg #[.bool s',.int .u64 x',.int .u64 y',.pointer p']) (f1/(((m:Nat):Int):Rat))→Q .normal (bk base [(48,.agg #[.bool s1,.int .u64 x1,.int .u64 y1,.pointer p1]),(49,.slice (some ⟨gm,off,none⟩) N cp),(50,.pointer (some ⟨gm,off,none⟩)),(51,.slice q m c),(52,.int .i64 (m:Int)),(53,(.agg #[.bool s',.int .u64 x',.int .u64 y',.pointer p'])),(11,.pointer (some ⟨bn,0,none⟩))]) (zy w1 bn s' x' y' p')) :
  (Code.region id ziq true).wp prog Q base W0:=by
 have hdr:∀ {w},But [] W0.drew w→But [] W0 w:=fun h=>(But.refl _ _).drew.trans' h
 have hT:∀ i,i<7→zln i<base.tmps.size:=fun i hi=>by
  have h:zln i≤53:=by revert i;decide
  omega
 refine l9 (by kernel_rfl) (xu (by kernel_rfl)) (fun i o ho=>(mo (ops:=ziq) (by kernel_rfl) i o ho).1)
  (fun _ w=>But [] W0.drew w) (zzm B gm off N cp q m c s1 x1 y1 p1 f1) zln 7 rfl qhj hT (But.refl _ _)
  (fun i hi=>?_) ?_ (fun a w=>∃ w1 bn s' x' y' p',a=bk base [(48,.agg #[.bool s1,.int .u64 x1,.int .u64 y1,.pointer p1]),(49,.slice (some ⟨gm,off,none⟩) N cp),(50,.pointer (some ⟨gm,off,none⟩)),(51,.slice q m c),(52,.int .i64 (m:Int)),(53,(.agg #[.bool s',.int .u64 x',.int .u64 y',.pointer p'])),(11,.pointer (some ⟨bn,0,none⟩))]∧w=zy w1 bn s' x' y' p'∧But [] W0 w1∧B≤bn∧P4 w1 bn false 0 0 none∧(∀ j,w1.frozen? ⟨bn,j,none⟩=false)∧aq w1 (.agg #[.bool s',.int .u64 x',.int .u64 y',.pointer p']) (f1/(((m:Nat):Int):Rat))) ?_ ?_
 ·exact vv (ops:=ziq) (ps:=[(7,0),(7,1),(7,2),(7,3),(7,4),(7,5),(7,6)]) (by kernel_rfl) 7 i (by
   have:i=0∨i=1∨i=2∨i=3∨i=4∨i=5∨i=6:=by omega
   rcases this with rfl|rfl|rfl|rfl|rfl|rfl|rfl <;> simp)
 ·intro dn i o a w K hi ho hdi hH he hdep hK
  have hD:=fun j hj=>(j4 (ps:=[(2,1),(3,2),(4,3),(5,0),(5,4)]) (by kernel_rfl) ho (fun j=>dn j=true∧zzm B gm off N cp q m c s1 x1 y1 p1 f1 j w (a.eval (.tmp (zln j)))) hdep j hj).2
  have hk:∀ v w',But [] w w'→zzm B gm off N cp q m c s1 x1 y1 p1 f1 i w' v→K (a.put (some (zln i)) v) w':=fun v w' hb hv=>hK v w' (hH.trans' hb) (fun j hj _ u hu=>qhk hu hj hb) hv
  have e10':=(he 10 (fun j hj e=>absurd e.symm (by revert j;decide))).trans e10
  have e0':=(he 0 (fun j hj e=>absurd e.symm (by revert j;decide))).trans e0
  have:i=0∨i=1∨i=2∨i=3∨i=4∨i=5∨i=6:=by omega
  rcases this with rfl|rfl|rfl|rfl|rfl|rfl|rfl
  ·obtain rfl:=so (show ziq[0]? =some qvt from rfl) ho
   exact an (ax a w _ _ _ _ _ _ g10 0 _ _ _ _ e10' (c1.but (hdr hH) (by simp))) (hk _ _ (But.refl _ _) rfl)
  ·obtain rfl:=so (show ziq[1]? =some qvs from rfl) ho
   exact an (bz a w _ _ _ _ _ _ _ e0') (hk _ _ (But.refl _ _) rfl)
  ·obtain rfl:=so (show ziq[2]? =some qvr from rfl) ho
   exact an (qkm a w _ _ _ _ _ _ gm off N cp hN0 hN2 (hD 1 (by simp))) (hk _ _ (But.refl _ _) rfl)
  ·obtain rfl:=so (show ziq[3]? =some qvq from rfl) ho
   exact an (qcu a w _ _ _ _ _ _ gm off _ _ _ (hD 2 (by simp)) ((hdr hH).ag cr (by simp))) (hk _ _ (But.refl _ _) rfl)
  ·obtain rfl:=so (show ziq[4]? =some qvp from rfl) ho
   exact an (qkj a w _ _ _ _ _ _ _ _ _ (hD 3 (by simp))) (hk _ _ (But.refl _ _) rfl)
  ·obtain rfl:=so (show ziq[5]? =some qvo from rfl) ho
   exact az (zms a w _ _ _ _ _ _ _ _ _ (hD 0 (by simp)) (hD 4 (by simp))) (R:=fun w' v=>aq w' v (f1/(((m:Nat):Int):Rat))∧But [] w w') (QU w (hdr hH)) (fun v w' hv=>hk v w' hv.2 hv.1)
  ·obtain rfl:=so (show ziq[6]? =some qvn from rfl) ho
   exact an (uh a w _ _ _ _ _) (hk _ _ ((But.refl _ _).alloc _) ⟨w.heap.size,rfl,Nat.le_trans hBW (hdr hH).size,⟨by simp,by simp,by simp,by simp⟩,fun j=>by simp⟩)
 ·intro dn o a w K ho hall h hK
  obtain rfl:=so (show ziq[7]? =some qvm from rfl) ho
  have cl:aq w (a.eval (.tmp 53)) (f1/(((m:Nat):Int):Rat)):=h.has 5 (by omega) (hall 5 (by omega))
  obtain⟨bn,eb,hb1,hb2,hb3⟩:zdv B w (a.eval (.tmp 11)):=h.has 6 (by omega) (hall 6 (by omega))
  have cl':=cl
  obtain⟨x',y',p',ev,-⟩:=cl.agg
  rw[ev] at cl'
  have ea:=h.puts hT (fun i=>match i with
   | 0=>.agg #[.bool s1,.int .u64 x1,.int .u64 y1,.pointer p1]
   | 1=>.slice (some ⟨gm,off,none⟩) N cp
   | 2=>.pointer (some ⟨gm,off,none⟩)
   | 3=>.slice q m c
   | 4=>.int .i64 (m:Int)
   | 5=>.agg #[.bool (decide ((f1/(((m:Nat):Int):Rat)).num<0)),.int .u64 x',.int .u64 y',.pointer p']
   | _=>.pointer (some ⟨bn,0,none⟩)) (fun i hi=>by
   have hc:=h.has i hi (hall i hi)
   have:i=0∨i=1∨i=2∨i=3∨i=4∨i=5∨i=6:=by omega
   rcases this with rfl|rfl|rfl|rfl|rfl|rfl|rfl
   all_goals first | exact ev | exact eb | exact hc|rfl)
  exact jo (kz a w _ _ _ _ _ bn _ x' y' p' eb ev hb2 hb3) (hK _ _ ⟨w,bn,_,x',y',p',ea,rfl,hdr h.mem,hb1,hb2,hb3,cl'⟩)
 ·rintro a w ⟨w1,bn,s',x',y',p',rfl,rfl,h1,h2,h3,h4,h5⟩
  exact hQ  w1 bn s' x' y' p' h1 h2 h3 h4 h5
def qvl:Oper:=⟨some 54,.move (.tmp 5),62, "credit.go:26",#[],none⟩
def qvk:Oper:=⟨some 55,.call { callee:=.value (.func 62),args:=#[.tmp 54],argTypes:=#[62] },27, "credit.go:26",#[⟨0,.data⟩],none⟩
def qvj:Oper:=⟨some 56,.load 27 (.tmp 11),27, "credit.go:26",#[],none⟩
def qvi:Oper:=⟨some 57,.call { callee:=.value (.func 31),args:=#[.tmp 55,.tmp 56],argTypes:=#[27,27] },27, "credit.go:26",#[⟨1,.data⟩,⟨2,.data⟩,⟨1,.chain⟩],none⟩
def qvh:Oper:=⟨some 58,.call { callee:=.value (.func 64),args:=#[.tmp 57],argTypes:=#[27] },27, "credit.go:26",#[⟨3,.data⟩,⟨3,.chain⟩],none⟩
def qvg:Oper:=⟨some 12,.alloc 27,0, "credit.go:26",#[],none⟩
def qvf:Oper:=⟨none,.store 27 (.tmp 12) (.tmp 58),0, "credit.go:26",#[⟨5,.data⟩,⟨4,.data⟩,⟨4,.chain⟩,⟨0,.phase⟩,⟨1,.phase⟩,⟨2,.phase⟩,⟨3,.phase⟩,⟨4,.phase⟩,⟨5,.phase⟩],none⟩
def zjt:Array Oper:=#[qvl,qvk,qvj,qvi,qvh,qvg,qvf]
def zlm (i:Nat):Nat:=match i with
 | 0=>54
 | 1=>55
 | 2=>56
 | 3=>57
 | 4=>58
 | _=>12
def zzl (B:Nat) (vs:Value) (s1:Bool) (x1:Int) (y1:Int) (p1:Option Addr) (f1:Rat) (f2:Rat) (i:Nat) (w:World) (v:Value):Prop:=match i with
 | 0=>v=vs
 | 1=>aq w v f2
 | 2=>v=.agg #[.bool s1,.int .u64 x1,.int .u64 y1,.pointer p1]
 | 3=>aq w v (f2-f1)
 | 4=>aq w v (zha (f2-f1))
 | _=>zdv B w v
theorem qhi {B:Nat} {vs:Value} {s1:Bool} {x1:Int} {y1:Int} {p1:Option Addr} {f1:Rat} {f2:Rat} {i:Nat} {w w':World} {v:Value} (h:zzl B vs s1 x1 y1 p1 f1 f2 i w v) (hi:i<6) (hb:But [] w w'):zzl B vs s1 x1 y1 p1 f1 f2 i w' v:=by
 have:i=0∨i=1∨i=2∨i=3∨i=4∨i=5:=by omega
 rcases this with rfl|rfl|rfl|rfl|rfl|rfl
 all_goals first | exact h | exact aq.but h hb | exact au.but h hb | exact zdv.but h hb | exact aq.but h hb
theorem qhh:∀ i j,i<6→j<6→zlm i=zlm j→i=j:=fun i j hi hj=>(by decide:∀ i,i<6→∀ j,j<6→zlm i=zlm j→i=j) i hi j hj
theorem zxa (id:Nat) (Q:Exit→Act→World→Prop) (base:Act) (W0:World) (B:Nat) (vs:Value) (s1:Bool) (x1:Int) (y1:Int) (p1:Option Addr) (f1:Rat) (f2:Rat) (hs:58<base.tmps.size) (g11:Nat) (hBW:B≤W0.heap.size) (e5:base.eval (.tmp 5)=vs) (e11:base.eval (.tmp 11)=.pointer (some ⟨g11,0,none⟩))
  (c1:P4 W0 g11 s1 x1 y1 p1)
  (SP:∀ w,But [] W0 w→Calls prog 62 #[vs] w fun e w'=>∃ v,e=.returned v∧aq w' v f2∧But [] w w')
  (SU:∀ w,But [] W0 w→∀ v,aq w v f2→Calls prog 31 #[v,.agg #[.bool s1,.int .u64 x1,.int .u64 y1,.pointer p1]] w fun e w'=>∃ v,e=.returned v∧aq w' v (f2-f1)∧But [] w w')
  (NO:∀ w,But [] W0 w→∀ v,aq w v (f2-f1)→Calls prog 64 #[v] w fun e w'=>∃ v,e=.returned v∧aq w' v (zha (f2-f1))∧But [] w w')
  (hQ:∀ w1 bn v1 v3 s' x' y' p',But [] W0 w1→B≤bn→P4 w1 bn false 0 0 none→(∀ j,w1.frozen? ⟨bn,j,none⟩=false)→aq w1 (.agg #[.bool s',.int .u64 x',.int .u64 y',.pointer p']) (zha (f2-f1))→Q .normal (bk base [(54,vs),(55,v1),(56,.agg #[.bool s1,.int .u64 x1,.int .u64 y1,.pointer p1]),(57,v3),(58,(.agg #[.bool s',.int .u64 x',.int .u64 y',.pointer p'])),(12,.pointer (some ⟨bn,0,none⟩))]) (zy w1 bn s' x' y' p')) :
  (Code.region id zjt true).wp prog Q base W0:=by
 have hdr:∀ {w},But [] W0.drew w→But [] W0 w:=fun h=>(But.refl _ _).drew.trans' h
 have hT:∀ i,i<6→zlm i<base.tmps.size:=fun i hi=>by
  have h:zlm i≤58:=by revert i;decide
  omega
 refine l9 (by kernel_rfl) (xu (by kernel_rfl)) (fun i o ho=>(mo (ops:=zjt) (by kernel_rfl) i o ho).1)
  (fun _ w=>But [] W0.drew w) (zzl B vs s1 x1 y1 p1 f1 f2) zlm 6 rfl qhh hT (But.refl _ _)
  (fun i hi=>?_) ?_ (fun a w=>∃ w1 bn v1 v3 s' x' y' p',a=bk base [(54,vs),(55,v1),(56,.agg #[.bool s1,.int .u64 x1,.int .u64 y1,.pointer p1]),(57,v3),(58,(.agg #[.bool s',.int .u64 x',.int .u64 y',.pointer p'])),(12,.pointer (some ⟨bn,0,none⟩))]∧w=zy w1 bn s' x' y' p'∧But [] W0 w1∧B≤bn∧P4 w1 bn false 0 0 none∧(∀ j,w1.frozen? ⟨bn,j,none⟩=false)∧aq w1 (.agg #[.bool s',.int .u64 x',.int .u64 y',.pointer p']) (zha (f2-f1))) ?_ ?_
 ·exact vv (ops:=zjt) (ps:=[(6,0),(6,1),(6,2),(6,3),(6,4),(6,5)]) (by kernel_rfl) 6 i (by
   have:i=0∨i=1∨i=2∨i=3∨i=4∨i=5:=by omega
   rcases this with rfl|rfl|rfl|rfl|rfl|rfl <;> simp)
 ·intro dn i o a w K hi ho hdi hH he hdep hK
  have hD:=fun j hj=>(j4 (ps:=[(1,0),(3,1),(3,2),(4,3)]) (by kernel_rfl) ho (fun j=>dn j=true∧zzl B vs s1 x1 y1 p1 f1 f2 j w (a.eval (.tmp (zlm j)))) hdep j hj).2
  have hk:∀ v w',But [] w w'→zzl B vs s1 x1 y1 p1 f1 f2 i w' v→K (a.put (some (zlm i)) v) w':=fun v w' hb hv=>hK v w' (hH.trans' hb) (fun j hj _ u hu=>qhi hu hj hb) hv
  have e5':=(he 5 (fun j hj e=>absurd e.symm (by revert j;decide))).trans e5
  have e11':=(he 11 (fun j hj e=>absurd e.symm (by revert j;decide))).trans e11
  have:i=0∨i=1∨i=2∨i=3∨i=4∨i=5:=by omega
  rcases this with rfl|rfl|rfl|rfl|rfl|rfl
  ·obtain rfl:=so (show zjt[0]? =some qvl from rfl) ho
   exact an (bz a w _ _ _ _ _ _ _ e5') (hk _ _ (But.refl _ _) rfl)
  ·obtain rfl:=so (show zjt[1]? =some qvk from rfl) ho
   exact az (zyl a w _ _ _ _ _ _ _ (hD 0 (by simp))) (R:=fun w' v=>aq w' v (f2)∧But [] w w') (SP w (hdr hH)) (fun v w' hv=>hk v w' hv.2 hv.1)
  ·obtain rfl:=so (show zjt[2]? =some qvj from rfl) ho
   exact an (ax a w _ _ _ _ _ _ g11 0 _ _ _ _ e11' (c1.but (hdr hH) (by simp))) (hk _ _ (But.refl _ _) rfl)
  ·obtain rfl:=so (show zjt[3]? =some qvi from rfl) ho
   exact az (zga a w _ _ _ _ _ _ _ _ _ rfl (hD 2 (by simp))) (R:=fun w' v=>aq w' v (f2-f1)∧But [] w w') (SU w (hdr hH) _ (hD 1 (by simp))) (fun v w' hv=>hk v w' hv.2 hv.1)
  ·obtain rfl:=so (show zjt[4]? =some qvh from rfl) ho
   exact az (zym a w _ _ _ _ _ _ _ rfl) (R:=fun w' v=>aq w' v (zha (f2-f1))∧But [] w w') (NO w (hdr hH) _ (hD 3 (by simp))) (fun v w' hv=>hk v w' hv.2 hv.1)
  ·obtain rfl:=so (show zjt[5]? =some qvg from rfl) ho
   exact an (uh a w _ _ _ _ _) (hk _ _ ((But.refl _ _).alloc _) ⟨w.heap.size,rfl,Nat.le_trans hBW (hdr hH).size,⟨by simp,by simp,by simp,by simp⟩,fun j=>by simp⟩)
 ·intro dn o a w K ho hall h hK
  obtain rfl:=so (show zjt[6]? =some qvf from rfl) ho
  have cl:aq w (a.eval (.tmp 58)) (zha (f2-f1)):=h.has 4 (by omega) (hall 4 (by omega))
  obtain⟨bn,eb,hb1,hb2,hb3⟩:zdv B w (a.eval (.tmp 12)):=h.has 5 (by omega) (hall 5 (by omega))
  have cl':=cl
  obtain⟨x',y',p',ev,-⟩:=cl.agg
  rw[ev] at cl'
  have ea:=h.puts hT (fun i=>match i with
   | 0=>vs
   | 1=>a.eval (.tmp 55)
   | 2=>.agg #[.bool s1,.int .u64 x1,.int .u64 y1,.pointer p1]
   | 3=>a.eval (.tmp 57)
   | 4=>.agg #[.bool (decide ((zha (f2-f1)).num<0)),.int .u64 x',.int .u64 y',.pointer p']
   | _=>.pointer (some ⟨bn,0,none⟩)) (fun i hi=>by
   have hc:=h.has i hi (hall i hi)
   have:i=0∨i=1∨i=2∨i=3∨i=4∨i=5:=by omega
   rcases this with rfl|rfl|rfl|rfl|rfl|rfl
   all_goals first | exact ev | exact eb | exact hc|rfl)
  exact jo (kz a w _ _ _ _ _ bn _ x' y' p' eb ev hb2 hb3) (hK _ _ ⟨w,bn,a.eval (.tmp 55),a.eval (.tmp 57),_,x',y',p',ea,rfl,hdr h.mem,hb1,hb2,hb3,cl'⟩)
 ·rintro a w ⟨w1,bn,v1,v3,s',x',y',p',rfl,rfl,h1,h2,h3,h4,h5⟩
  exact hQ  w1 bn v1 v3 s' x' y' p' h1 h2 h3 h4 h5
def qve:Oper:=⟨some 62,.load 27 (.tmp 9),27, "credit.go:28",#[],none⟩
def qvd:Oper:=⟨some 63,.load 27 (.tmp 10),27, "credit.go:28",#[],none⟩
def qvc:Oper:=⟨some 64,.load 27 (.tmp 12),27, "credit.go:28",#[],none⟩
def qvb:Oper:=⟨some 65,.load 27 (.tmp 13),27, "credit.go:28",#[],none⟩
def qva:Oper:=⟨some 66,.move (.tmp 5),62, "credit.go:28",#[],none⟩
def quz:Oper:=⟨some 67,.load 27 (.tmp 9),27, "credit.go:28",#[],none⟩
def quy:Oper:=⟨some 68,.load 27 (.tmp 13),27, "credit.go:28",#[],none⟩
def quw:Oper:=⟨some 69,.call { callee:=.value (.func 65),args:=#[.tmp 66,.tmp 67,.tmp 68],argTypes:=#[62,27,27] },62, "credit.go:28",#[⟨4,.data⟩,⟨5,.data⟩,⟨6,.data⟩],none⟩
def quv:Oper:=⟨some 70,.build 64 #[(0,.tmp 62),(1,.tmp 63),(2,.tmp 64),(3,.tmp 65),(4,.tmp 69)],64, "credit.go:28",#[⟨0,.data⟩,⟨1,.data⟩,⟨2,.data⟩,⟨3,.data⟩,⟨7,.data⟩],none⟩
def quu:Oper:=⟨none,.store 64 (.tmp 2) (.tmp 70),0, "credit.go:28",#[⟨8,.data⟩,⟨7,.chain⟩,⟨0,.phase⟩,⟨1,.phase⟩,⟨2,.phase⟩,⟨3,.phase⟩,⟨4,.phase⟩,⟨5,.phase⟩,⟨6,.phase⟩,⟨7,.phase⟩,⟨8,.phase⟩],none⟩
def qnb:Oper:=⟨some 3,.assign (.const .nilIface),29, "credit.go:28",#[⟨9,.chain⟩,⟨0,.phase⟩,⟨1,.phase⟩,⟨2,.phase⟩,⟨3,.phase⟩,⟨4,.phase⟩,⟨5,.phase⟩,⟨6,.phase⟩,⟨7,.phase⟩,⟨8,.phase⟩,⟨9,.phase⟩],none⟩
def zew:Array Oper:=#[qve,qvd,qvc,qvb,qva,quz,quy,quw,quv,quu,qnb]
def zll (i:Nat):Nat:=match i with
 | 0=>62
 | 1=>63
 | 2=>64
 | 3=>65
 | 4=>66
 | 5=>67
 | 6=>68
 | 7=>69
 | _=>70
def zzk (B:Nat) (vs:Value) (N:Nat) (F:Nat→Rat) (s1:Bool) (x1:Int) (y1:Int) (p1:Option Addr) (_s2:Bool) (_x2:Int) (_y2:Int) (_p2:Option Addr) (_s3:Bool) (_x3:Int) (_y3:Int) (_p3:Option Addr) (s4:Bool) (x4:Int) (y4:Int) (p4:Option Addr) (f1:Rat) (f2:Rat) (f3:Rat) (f4:Rat) (i:Nat) (w:World) (v:Value):Prop:=match i with
 | 0=>aq w v f1
 | 1=>aq w v f2
 | 2=>aq w v f3
 | 3=>aq w v f4
 | 4=>v=vs
 | 5=>v=.agg #[.bool s1,.int .u64 x1,.int .u64 y1,.pointer p1]
 | 6=>v=.agg #[.bool s4,.int .u64 x4,.int .u64 y4,.pointer p4]
 | 7=>zxr B N F w v
 | _=>zeg (f1) (f2) (f3) (f4) B N (F) w v
theorem qhg {B:Nat} {vs:Value} {N:Nat} {F:Nat→Rat} {s1:Bool} {x1:Int} {y1:Int} {p1:Option Addr} {s2:Bool} {x2:Int} {y2:Int} {p2:Option Addr} {s3:Bool} {x3:Int} {y3:Int} {p3:Option Addr} {s4:Bool} {x4:Int} {y4:Int} {p4:Option Addr} {f1:Rat} {f2:Rat} {f3:Rat} {f4:Rat} {i:Nat} {w w':World} {v:Value} (h:zzk B vs N F s1 x1 y1 p1 s2 x2 y2 p2 s3 x3 y3 p3 s4 x4 y4 p4 f1 f2 f3 f4 i w v) (hi:i<9) (hb:But [] w w'):zzk B vs N F s1 x1 y1 p1 s2 x2 y2 p2 s3 x3 y3 p3 s4 x4 y4 p4 f1 f2 f3 f4 i w' v:=by
 have:i=0∨i=1∨i=2∨i=3∨i=4∨i=5∨i=6∨i=7∨i=8:=by omega
 rcases this with rfl|rfl|rfl|rfl|rfl|rfl|rfl|rfl|rfl
 ·exact aq.but (show aq w v f1 from h) hb
 ·exact aq.but (show aq w v f2 from h) hb
 ·exact aq.but (show aq w v f3 from h) hb
 ·exact aq.but (show aq w v f4 from h) hb
 ·exact (show v=vs from h)
 ·exact (show v=.agg #[.bool s1,.int .u64 x1,.int .u64 y1,.pointer p1] from h)
 ·exact (show v=.agg #[.bool s4,.int .u64 x4,.int .u64 y4,.pointer p4] from h)
 ·exact zxr.but (show zxr B N F w v from h) hb
 ·exact zeg.but (show zeg (f1) (f2) (f3) (f4) B N (F) w v from h) hb
theorem qhf:∀ i j,i<9→j<9→zll i=zll j→i=j:=fun i j hi hj=>(by decide:∀ i,i<9→∀ j,j<9→zll i=zll j→i=j) i hi j hj
theorem zwz (id:Nat) (Q:Exit→Act→World→Prop) (base:Act) (W0:World) (B:Nat) (vs:Value) (N:Nat) (F:Nat→Rat) (s1:Bool) (x1:Int) (y1:Int) (p1:Option Addr) (s2:Bool) (x2:Int) (y2:Int) (p2:Option Addr) (s3:Bool) (x3:Int) (y3:Int) (p3:Option Addr) (s4:Bool) (x4:Int) (y4:Int) (p4:Option Addr) (f1:Rat) (f2:Rat) (f3:Rat) (f4:Rat) (gb g9 g10 g12 g13:Nat) {vb:List Value} (hs:70<base.tmps.size) (eb:base.eval (.tmp 2)=.pointer (some ⟨gb,0,none⟩)) (cb:xg W0 gb vb) (hvb:vb.length=17) (e9:base.eval (.tmp 9)=.pointer (some ⟨g9,0,none⟩)) (e10:base.eval (.tmp 10)=.pointer (some ⟨g10,0,none⟩)) (e12:base.eval (.tmp 12)=.pointer (some ⟨g12,0,none⟩)) (e13:base.eval (.tmp 13)=.pointer (some ⟨g13,0,none⟩)) (e5:base.eval (.tmp 5)=vs)
  (c1:P4 W0 g9 s1 x1 y1 p1) (c2:P4 W0 g10 s2 x2 y2 p2) (c3:P4 W0 g12 s3 x3 y3 p3) (c4:P4 W0 g13 s4 x4 y4 p4) (F1:aq W0 (.agg #[.bool s1,.int .u64 x1,.int .u64 y1,.pointer p1]) f1) (F2:aq W0 (.agg #[.bool s2,.int .u64 x2,.int .u64 y2,.pointer p2]) f2) (F3:aq W0 (.agg #[.bool s3,.int .u64 x3,.int .u64 y3,.pointer p3]) f3) (F4:aq W0 (.agg #[.bool s4,.int .u64 x4,.int .u64 y4,.pointer p4]) f4)
  (PR:∀ w,But [] W0 w→Calls prog 65 #[vs,.agg #[.bool s1,.int .u64 x1,.int .u64 y1,.pointer p1],.agg #[.bool s4,.int .u64 x4,.int .u64 y4,.pointer p4]] w fun e w'=>∃ v,e=.returned v∧zxr B N F w' v∧But [] w w')
  (hQ:∀ w1 v0 v1 v2 v3 v7 a1 b1 c1 d1 a2 b2 c2 d2 a3 b3 c3 d3 a4 b4 c4 d4 gr,But [] W0 w1→aq w1 (.agg #[.bool a1,.int .u64 b1,.int .u64 c1,.pointer d1]) (f1)→aq w1 (.agg #[.bool a2,.int .u64 b2,.int .u64 c2,.pointer d2]) (f2)→aq w1 (.agg #[.bool a3,.int .u64 b3,.int .u64 c3,.pointer d3]) (f3)→aq w1 (.agg #[.bool a4,.int .u64 b4,.int .u64 c4,.pointer d4]) (f4)→je w1 gr N (F)→B≤gr→gr<w1.heap.size→Q .normal (bk base [(62,v0),(63,v1),(64,v2),(65,v3),(66,vs),(67,.agg #[.bool s1,.int .u64 x1,.int .u64 y1,.pointer p1]),(68,.agg #[.bool s4,.int .u64 x4,.int .u64 y4,.pointer p4]),(69,v7),(70,.agg #[.bool a1,.int .u64 b1,.int .u64 c1,.pointer d1,.bool a2,.int .u64 b2,.int .u64 c2,.pointer d2,.bool a3,.int .u64 b3,.int .u64 c3,.pointer d3,.bool a4,.int .u64 b4,.int .u64 c4,.pointer d4,.slice (some ⟨gr,0,none⟩) N N]),(3,.nilIface)]) (w1.setCells gb 0 [.bool a1,.int .u64 b1,.int .u64 c1,.pointer d1,.bool a2,.int .u64 b2,.int .u64 c2,.pointer d2,.bool a3,.int .u64 b3,.int .u64 c3,.pointer d3,.bool a4,.int .u64 b4,.int .u64 c4,.pointer d4,.slice (some ⟨gr,0,none⟩) N N])) :
  (Code.region id zew true).wp prog Q base W0:=by
 have hdr:∀ {w},But [] W0.drew w→But [] W0 w:=fun h=>(But.refl _ _).drew.trans' h
 have hT:∀ i,i<9→zll i<base.tmps.size:=fun i hi=>by
  have h:zll i≤70:=by revert i;decide
  omega
 refine zgx (by kernel_rfl) (xu (by kernel_rfl)) (fun i o ho=>(mo (ops:=zew) (by kernel_rfl) i o ho).1)
  (fun _ w=>But [] W0.drew w) (zzk B vs N F s1 x1 y1 p1 s2 x2 y2 p2 s3 x3 y3 p3 s4 x4 y4 p4 f1 f2 f3 f4) zll 9 rfl qhf hT (But.refl _ _)
  (fun i hi=>?_) (vv (ops:=zew) (ps:=[(10,9)]) (by kernel_rfl) 10 9 (by simp)) ?_ (fun a w=>∃ w1 v0 v1 v2 v3 v7 a1 b1 c1 d1 a2 b2 c2 d2 a3 b3 c3 d3 a4 b4 c4 d4 gr,a=bk base [(62,v0),(63,v1),(64,v2),(65,v3),(66,vs),(67,.agg #[.bool s1,.int .u64 x1,.int .u64 y1,.pointer p1]),(68,.agg #[.bool s4,.int .u64 x4,.int .u64 y4,.pointer p4]),(69,v7),(70,.agg #[.bool a1,.int .u64 b1,.int .u64 c1,.pointer d1,.bool a2,.int .u64 b2,.int .u64 c2,.pointer d2,.bool a3,.int .u64 b3,.int .u64 c3,.pointer d3,.bool a4,.int .u64 b4,.int .u64 c4,.pointer d4,.slice (some ⟨gr,0,none⟩) N N])]∧w=w1.setCells gb 0 [.bool a1,.int .u64 b1,.int .u64 c1,.pointer d1,.bool a2,.int .u64 b2,.int .u64 c2,.pointer d2,.bool a3,.int .u64 b3,.int .u64 c3,.pointer d3,.bool a4,.int .u64 b4,.int .u64 c4,.pointer d4,.slice (some ⟨gr,0,none⟩) N N]∧But [] W0 w1∧aq w1 (.agg #[.bool a1,.int .u64 b1,.int .u64 c1,.pointer d1]) (f1)∧aq w1 (.agg #[.bool a2,.int .u64 b2,.int .u64 c2,.pointer d2]) (f2)∧aq w1 (.agg #[.bool a3,.int .u64 b3,.int .u64 c3,.pointer d3]) (f3)∧aq w1 (.agg #[.bool a4,.int .u64 b4,.int .u64 c4,.pointer d4]) (f4)∧je w1 gr N (F)∧B≤gr∧gr<w1.heap.size) (fun a w=>∃ w1 v0 v1 v2 v3 v7 a1 b1 c1 d1 a2 b2 c2 d2 a3 b3 c3 d3 a4 b4 c4 d4 gr,a=bk base [(62,v0),(63,v1),(64,v2),(65,v3),(66,vs),(67,.agg #[.bool s1,.int .u64 x1,.int .u64 y1,.pointer p1]),(68,.agg #[.bool s4,.int .u64 x4,.int .u64 y4,.pointer p4]),(69,v7),(70,.agg #[.bool a1,.int .u64 b1,.int .u64 c1,.pointer d1,.bool a2,.int .u64 b2,.int .u64 c2,.pointer d2,.bool a3,.int .u64 b3,.int .u64 c3,.pointer d3,.bool a4,.int .u64 b4,.int .u64 c4,.pointer d4,.slice (some ⟨gr,0,none⟩) N N]),(3,.nilIface)]∧w=w1.setCells gb 0 [.bool a1,.int .u64 b1,.int .u64 c1,.pointer d1,.bool a2,.int .u64 b2,.int .u64 c2,.pointer d2,.bool a3,.int .u64 b3,.int .u64 c3,.pointer d3,.bool a4,.int .u64 b4,.int .u64 c4,.pointer d4,.slice (some ⟨gr,0,none⟩) N N]∧But [] W0 w1∧aq w1 (.agg #[.bool a1,.int .u64 b1,.int .u64 c1,.pointer d1]) (f1)∧aq w1 (.agg #[.bool a2,.int .u64 b2,.int .u64 c2,.pointer d2]) (f2)∧aq w1 (.agg #[.bool a3,.int .u64 b3,.int .u64 c3,.pointer d3]) (f3)∧aq w1 (.agg #[.bool a4,.int .u64 b4,.int .u64 c4,.pointer d4]) (f4)∧je w1 gr N (F)∧B≤gr∧gr<w1.heap.size) ?_ ?_ ?_
 ·exact vv (ops:=zew) (ps:=[(9,0),(9,1),(9,2),(9,3),(9,4),(9,5),(9,6),(9,7),(9,8)]) (by kernel_rfl) 9 i (by
   have:i=0∨i=1∨i=2∨i=3∨i=4∨i=5∨i=6∨i=7∨i=8:=by omega
   rcases this with rfl|rfl|rfl|rfl|rfl|rfl|rfl|rfl|rfl <;> simp)
 ·intro dn i o a w K hi ho hdi hH he hdep hK
  have hD:=fun j hj=>(j4 (ps:=[(7,4),(7,5),(7,6),(8,0),(8,1),(8,2),(8,3),(8,7)]) (by kernel_rfl) ho (fun j=>dn j=true∧zzk B vs N F s1 x1 y1 p1 s2 x2 y2 p2 s3 x3 y3 p3 s4 x4 y4 p4 f1 f2 f3 f4 j w (a.eval (.tmp (zll j)))) hdep j hj).2
  have hk:∀ v w',But [] w w'→zzk B vs N F s1 x1 y1 p1 s2 x2 y2 p2 s3 x3 y3 p3 s4 x4 y4 p4 f1 f2 f3 f4 i w' v→K (a.put (some (zll i)) v) w':=fun v w' hb hv=>hK v w' (hH.trans' hb) (fun j hj _ u hu=>qhg hu hj hb) hv
  have e9':=(he 9 (fun j hj e=>absurd e.symm (by revert j;decide))).trans e9
  have e10':=(he 10 (fun j hj e=>absurd e.symm (by revert j;decide))).trans e10
  have e12':=(he 12 (fun j hj e=>absurd e.symm (by revert j;decide))).trans e12
  have e13':=(he 13 (fun j hj e=>absurd e.symm (by revert j;decide))).trans e13
  have e5':=(he 5 (fun j hj e=>absurd e.symm (by revert j;decide))).trans e5
  have:i=0∨i=1∨i=2∨i=3∨i=4∨i=5∨i=6∨i=7∨i=8:=by omega
  rcases this with rfl|rfl|rfl|rfl|rfl|rfl|rfl|rfl|rfl
  ·obtain rfl:=so (show zew[0]? =some qve from rfl) ho
   exact an (ax a w _ _ _ _ _ _ g9 0 _ _ _ _ e9' (c1.but (hdr hH) (by simp))) (hk _ _ (But.refl _ _) (F1.but (hdr hH)))
  ·obtain rfl:=so (show zew[1]? =some qvd from rfl) ho
   exact an (ax a w _ _ _ _ _ _ g10 0 _ _ _ _ e10' (c2.but (hdr hH) (by simp))) (hk _ _ (But.refl _ _) (F2.but (hdr hH)))
  ·obtain rfl:=so (show zew[2]? =some qvc from rfl) ho
   exact an (ax a w _ _ _ _ _ _ g12 0 _ _ _ _ e12' (c3.but (hdr hH) (by simp))) (hk _ _ (But.refl _ _) (F3.but (hdr hH)))
  ·obtain rfl:=so (show zew[3]? =some qvb from rfl) ho
   exact an (ax a w _ _ _ _ _ _ g13 0 _ _ _ _ e13' (c4.but (hdr hH) (by simp))) (hk _ _ (But.refl _ _) (F4.but (hdr hH)))
  ·obtain rfl:=so (show zew[4]? =some qva from rfl) ho
   exact an (bz a w _ _ _ _ _ _ _ e5') (hk _ _ (But.refl _ _) rfl)
  ·obtain rfl:=so (show zew[5]? =some quz from rfl) ho
   exact an (ax a w _ _ _ _ _ _ g9 0 _ _ _ _ e9' (c1.but (hdr hH) (by simp))) (hk _ _ (But.refl _ _) rfl)
  ·obtain rfl:=so (show zew[6]? =some quy from rfl) ho
   exact an (ax a w _ _ _ _ _ _ g13 0 _ _ _ _ e13' (c4.but (hdr hH) (by simp))) (hk _ _ (But.refl _ _) rfl)
  ·obtain rfl:=so (show zew[7]? =some quw from rfl) ho
   exact az (qgm a w _ _ _ _ _ _ _ _ _ _ _ (hD 4 (by simp)) (hD 5 (by simp)) (hD 6 (by simp))) (R:=fun w' v=>zxr B N F w' v∧But [] w w') (PR w (hdr hH)) (fun v w' hv=>hk v w' hv.2 hv.1)
  ·obtain rfl:=so (show zew[8]? =some quv from rfl) ho
   have q1:aq w (a.eval (.tmp 62)) (f1):=hD 0 (by simp)
   obtain⟨b1,c1,d1,e1,-⟩:=q1.agg
   rw[e1] at q1
   have q2:aq w (a.eval (.tmp 63)) (f2):=hD 1 (by simp)
   obtain⟨b2,c2,d2,e2,-⟩:=q2.agg
   rw[e2] at q2
   have q3:aq w (a.eval (.tmp 64)) (f3):=hD 2 (by simp)
   obtain⟨b3,c3,d3,e3,-⟩:=q3.agg
   rw[e3] at q3
   have q4:aq w (a.eval (.tmp 65)) (f4):=hD 3 (by simp)
   obtain⟨b4,c4,d4,e4,-⟩:=q4.agg
   rw[e4] at q4
   obtain⟨gr,er,hr,hg1,hg2⟩:zxr B N (F) w (a.eval (.tmp 69)):=hD 7 (by simp)
   exact an (zte a w _ _ _ _ _ _ _ _ _ _ _ b1 c1 d1 _ b2 c2 d2 _ b3 c3 d3 _ b4 c4 d4 gr N e1 e2 e3 e4 er) (hk _ _ (But.refl _ _) ⟨_,b1,c1,d1,_,b2,c2,d2,_,b3,c3,d3,_,b4,c4,d4,gr,rfl,q1,q2,q3,q4,hr,hg1,hg2⟩)
 ·intro dn o a w K ho hall h hK
  obtain rfl:=so (show zew[9]? =some quu from rfl) ho
  have eb':=(h.eval 2 (fun j hj e=>absurd e.symm (by revert j;decide))).trans eb
  obtain⟨a1,b1,c1,d1,a2,b2,c2,d2,a3,b3,c3,d3,a4,b4,c4,d4,gr,ev,h1,h2,h3,h4,hr,hg1,hg2⟩:zeg (f1) (f2) (f3) (f4) B N (F) w (a.eval (.tmp 70)):=h.has 8 (by omega) (hall 8 (by omega))
  have ea:=h.puts hT (fun i=>match i with
   | 0=>a.eval (.tmp 62)
   | 1=>a.eval (.tmp 63)
   | 2=>a.eval (.tmp 64)
   | 3=>a.eval (.tmp 65)
   | 4=>vs
   | 5=>.agg #[.bool s1,.int .u64 x1,.int .u64 y1,.pointer p1]
   | 6=>.agg #[.bool s4,.int .u64 x4,.int .u64 y4,.pointer p4]
   | 7=>a.eval (.tmp 69)
   | _=>.agg #[.bool a1,.int .u64 b1,.int .u64 c1,.pointer d1,.bool a2,.int .u64 b2,.int .u64 c2,.pointer d2,.bool a3,.int .u64 b3,.int .u64 c3,.pointer d3,.bool a4,.int .u64 b4,.int .u64 c4,.pointer d4,.slice (some ⟨gr,0,none⟩) N N]) (fun i hi=>by
   have hc:=h.has i hi (hall i hi)
   have:i=0∨i=1∨i=2∨i=3∨i=4∨i=5∨i=6∨i=7∨i=8:=by omega
   rcases this with rfl|rfl|rfl|rfl|rfl|rfl|rfl|rfl|rfl
   ·rfl
   ·rfl
   ·rfl
   ·rfl
   ·exact hc
   ·exact hc
   ·exact hc
   ·rfl
   ·exact ev)
  exact jo (ztc a w _ _ _ _ _ gb a1 b1 c1 d1 a2 b2 c2 d2 a3 b3 c3 d3 a4 b4 c4 d4 gr N eb' ev (cb.but (hdr h.mem) (by simp) (by omega)) hvb) (hK _ _ ⟨w,a.eval (.tmp 62),a.eval (.tmp 63),a.eval (.tmp 64),a.eval (.tmp 65),a.eval (.tmp 69),a1,b1,c1,d1,a2,b2,c2,d2,a3,b3,c3,d3,a4,b4,c4,d4,gr,ea,rfl,hdr h.mem,h1,h2,h3,h4,hr,hg1,hg2⟩)
 ·rintro o a w K ho ⟨w1,v0,v1,v2,v3,v7,a1,b1,c1,d1,a2,b2,c2,d2,a3,b3,c3,d3,a4,b4,c4,d4,gr,ha,hw,hb1,h1,h2,h3,h4,hr,hg1,hg2⟩ hK
  obtain rfl:=so (show zew[10]? =some qnb from rfl) ho
  exact an (zkx _ _ _ _ _ _ _) (hK _ _ ⟨w1,v0,v1,v2,v3,v7,a1,b1,c1,d1,a2,b2,c2,d2,a3,b3,c3,d3,a4,b4,c4,d4,gr,by rw[ha];exact ui _ _ _ _,hw,hb1,h1,h2,h3,h4,hr,hg1,hg2⟩)
 ·rintro a w ⟨w1,v0,v1,v2,v3,v7,a1,b1,c1,d1,a2,b2,c2,d2,a3,b3,c3,d3,a4,b4,c4,d4,gr,rfl,rfl,hb1,h1,h2,h3,h4,hr,hg1,hg2⟩
  exact hQ w1 v0 v1 v2 v3 v7 a1 b1 c1 d1 a2 b2 c2 d2 a3 b3 c3 d3 a4 b4 c4 d4 gr hb1 h1 h2 h3 h4 hr hg1 hg2
end Go.Proofs.YtffghofheeleeaaGreatDoor
