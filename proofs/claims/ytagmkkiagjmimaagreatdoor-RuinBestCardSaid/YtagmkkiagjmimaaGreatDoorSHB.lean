/- Sums and differences of whole numbers wi -/
import Derived.Deep.RegionHeld
import Derived.Test.YtagmkkiagjmimaaGreatDoorSH9
import Derived.Test.YtagmkkiagjmimaaGreatDoorSPf
namespace Go.Proofs.YtagmkkiagjmimaaGreatDoor
set_option linter.unusedVariables false
open Go.Proofs.Tryz
open Go.RowKit
set_option maxHeartbeats 8000000
set_option maxRecDepth 100000
def sgU (s:Bool) (n:Nat):Int:=if s then -(n:Int) else (n:Int)
theorem zvp (z:Int):sgU (decide (z<0)) z.natAbs=z:=by(
 unfold sgU
 by_cases h:z<0
 ·rw[decide_eq_true h,if_pos rfl];omega
 ·rw[decide_eq_false h,if_neg (by simp)];omega)
theorem zkb (s:Bool) (n:Nat) (z:Int) (h:z=sgU s n):z.natAbs=n∧(s && decide (0<(wd 4294967296 n).length))=decide (z<0):=by(
 have hl:=ze (B:=4294967296) (by omega) n
 subst h
 cases s
 ·refine⟨by simp[sgU],?_⟩
  rw[Bool.false_and,Bool.eq_iff_iff]
  simp[sgU]
 ·refine⟨by simp[sgU],?_⟩
  rw[Bool.true_and,Bool.eq_iff_iff]
  simp only[sgU,if_true,decide_eq_true_eq]
  omega)
theorem qak (xn yn:Bool) (va vb:Value) (X Y:Nat) (z:Int) (w:World) (ha:Sl .u32 w va (wd 4294967296 X)) (hb:Sl .u32 w vb (wd 4294967296 Y)) (hla:(wd 4294967296 X).length<8388608) (hlb:(wd 4294967296 Y).length<8388608) (hz:Hid (z=sgU xn X+sgU yn Y)) :
   Calls prog 154 #[.bool xn,va,.bool yn,vb] w fun e w'=>∃ s v,e=.returned (.tuple #[.bool s,v])∧Sl .u32 w' v (wd 4294967296 z.natAbs)∧But [] w w'∧(s && decide (0<(wd 4294967296 z.natAbs).length))=decide (z<0):=by(
 have CM:=af (zdl va vb X Y w ha hb (by omega) (by omega))
 have HA:=af ha
 have HB:=af hb
 have AD:=af (qej va vb X Y w ha hb (by omega) (by omega))
 have S1:Hid (Y≤X→∀ W,But [] w W→Calls prog 200 #[va,vb] W fun e w'=>∃ v',e=.returned v'∧Sl .u32 w' v' (wd 4294967296 (X-Y))∧But [] W w'):=fun h W hW=>(zqa va vb X Y W (ha.ah hW) (hb.ah hW) (by omega) h).mono fun e w' ⟨v',h1,h2,h3,_⟩=>⟨v',h1,h2,h3⟩
 have S2:Hid (X≤Y→∀ W,But [] w W→Calls prog 200 #[vb,va] W fun e w'=>∃ v',e=.returned v'∧Sl .u32 w' v' (wd 4294967296 (Y-X))∧But [] W w'):=fun h W hW=>(zqa vb va Y X W (hb.ah hW) (ha.ah hW) (by omega) h).mono fun e w' ⟨v',h1,h2,h3,_⟩=>⟨v',h1,h2,h3⟩
 obtain⟨a1,c1,rfl,-,-⟩:=ha
 obtain⟨a2,c2,rfl,-,-⟩:=hb
 generalize (wd 4294967296 X).length=l1 at *
 generalize (wd 4294967296 Y).length=l2 at *
 by_cases hs:xn=yn
 ·(
 subst hs
 have FS:=af (zkb xn (X+Y) z (by rw[ae hz];unfold sgU;split <;> omega))
 clear hz
 go_enter func154,ntmps154
 go_wp2_with fail
 refine (ae AD).mono ?_
 rintro e w1 ⟨v1,rfl,hv1,hb1,-⟩
 have FIN:=af (And.intro hv1 hb1)
 clear hv1 hb1
 go_wp2
 go_ret2
 refine⟨xn,v1,rfl,?_,(ae FIN).2,?_⟩
 ·rw[(ae FS).1];exact (ae FIN).1
 ·rw[(ae FS).1];exact (ae FS).2)
 ·(
 have hbe:(xn==yn)=false:=by simp[hs]
 have hyn:yn=!xn:=by cases xn <;> cases yn <;> simp_all
 rcases Nat.lt_or_ge X Y with hlt | hge
 ·(
 have FS:=af (zkb yn (Y-X) z (by rw[ae hz,hyn];unfold sgU;cases xn <;> simp <;> omega))
 rw[o8 hlt] at CM
 clear hz hyn
 go_enter func154,ntmps154
 go_wp2_with fail
 refine (ae CM).mono ?_
 rintro e w1 ⟨rfl,q,rfl⟩
 go_wp2_with fail
 refine (ae S2 (Nat.le_of_lt hlt) _ ((But.refl _ _).drewN q)).mono ?_
 rintro e w2 ⟨v1,rfl,hv1,hb1⟩
 have FIN:=af (And.intro hv1 (((But.refl [] w).drewN q).trans' hb1))
 clear hv1 hb1
 go_wp2
 go_ret2
 refine⟨yn,v1,rfl,?_,(ae FIN).2,?_⟩
 ·rw[(ae FS).1];exact (ae FIN).1
 ·rw[(ae FS).1];exact (ae FS).2)
 ·(
 have FS:=af (zkb xn (X-Y) z (by rw[ae hz,hyn];unfold sgU;cases xn <;> simp <;> omega))
 have hc0:=zan hge
 generalize zq X Y=r at *
 have hr:decide (0≤r)=true:=by simp;exact hc0
 clear hz hyn
 go_enter func154,ntmps154
 go_wp2_with fail
 refine (ae CM).mono ?_
 rintro e w1 ⟨rfl,q,rfl⟩
 go_wp2_with fail
 refine (ae S1 hge _ ((But.refl _ _).drewN q)).mono ?_
 rintro e w2 ⟨v1,rfl,hv1,hb1⟩
 have FIN:=af (And.intro hv1 (((But.refl [] w).drewN q).trans' hb1))
 clear hv1 hb1
 go_wp2
 go_ret2
 refine⟨xn,v1,rfl,?_,(ae FIN).2,?_⟩
 ·rw[(ae FS).1];exact (ae FIN).1
 ·rw[(ae FS).1];exact (ae FS).2)))
theorem zir (b o b1 o1 b2 o2:Nat) (x y z:Int) (w:World) (hs:Slot w b o) (hne1:b≠b1) (hne2:b≠b2) (hx:za w b1 o1 x) (hy:za w b2 o2 y) (hlx:(wd 4294967296 x.natAbs).length<8388608) (hly:(wd 4294967296 y.natAbs).length<8388608) (hlz:(wd 4294967296 z.natAbs).length<2147483648) (hz:Hid (z=x+y)) :
   Calls prog 68 #[.pointer (some ⟨b,o,none⟩),.pointer (some ⟨b1,o1,none⟩),.pointer (some ⟨b2,o2,none⟩)] w fun e w'=>e=.returned (.pointer (some ⟨b,o,none⟩))∧∃ w1 v,But [] w w1∧Sl .u32 w1 v (wd 4294967296 z.natAbs)∧w'=oo w1 b o v (decide (z<0)):=by(
 obtain⟨h0,v0,h1,hv⟩:=hx
 obtain⟨g0,u0,g1,hu⟩:=hy
 have SM:=af (fun W (h8:Sl .u32 W v0 (wd 4294967296 x.natAbs)) (h9:Sl .u32 W u0 (wd 4294967296 y.natAbs))=>qak (decide (x<0)) (decide (y<0)) v0 u0 x.natAbs y.natAbs z W h8 h9 hlx hly (by show _=_;rw[zvp,zvp];exact ae hz))
 generalize hsx:decide (x<0)=sx at h0 SM
 generalize hsy:decide (y<0)=sy at g0 SM
 clear hsx hsy hz
 go_enter func68,ntmps68
 go_wp2
 go_region_held (fun w'=>w'.cell? ⟨b1,o1,none⟩=some (.bool sx)∧w'.cell? ⟨b1,o1+1,none⟩=some v0∧w'.cell? ⟨b2,o2,none⟩=some (.bool sy)∧w'.cell? ⟨b2,o2+1,none⟩=some u0) (go_keep) (first
  | (go_at_call 154;refine (ae SM _ ?_ ?_).mono ?_;exact hv;exact hu;rintro e w1 ⟨s1,v,rfl,hv1,hb,hsg⟩;have hb0:But [] w w1:=(by first | exact hb | exact (But.refl _ _).drew.trans' hb | exact ((But.refl _ _).drewN _).trans' hb);have k0:=hb0.ag h0 (by simp);have k1:=hb0.ag h1 (by simp);have k2:=hb0.ag g0 (by simp);have k3:=hb0.ag g1 (by simp))
  | (go_at_call 153;(obtain⟨⟨s0,hc0⟩,⟨a0,n0,c0,hc1⟩,f0,f1⟩:=hs.but hb0 (by simp));refine (zcp b o _ v _ (.bool s0) (.slice a0 n0 c0) _ hv1 hlz hc0 hc1 f0 f1).mono ?_;rintro e w2 ⟨rfl,rfl⟩))
 all_goals go_wp2
 all_goals go_ret
 all_goals refine⟨rfl,w1,v,hb0,hv1,?_⟩
 all_goals (rw[← hsg];rfl))
theorem rz (a:Act) (w:World) (d:Nat) (u:TypeId) (ps:String) (ed:Array Edge) :
  (execOp a.eval { dst:=some d,op:=Op.alloc 111,type:=u,pos:=ps,after:=ed,guard:=none }).run prog w=.ok (.value (.pointer (some ⟨w.heap.size,0,none⟩))) (w.alloc (.cells #[.bool false,.slice none 0 0] 111)):=by
 unfold execOp
 go_simp
theorem l5 (a:Act) (w:World) (d t:Nat) (u:TypeId) (ps:String) (ed:Array Edge) (N:Value) (h:a.eval (.tmp t)=N) :
   (execOp a.eval { dst:=some d,op:=Op.move (.tmp t),type:=u,pos:=ps,after:=ed,guard:=none }).run prog w=.ok (.value N) w:=by(
 unfold execOp
 simp only[h]
 go_simp)
theorem zql (a:Act) (w:World) (d t:Nat) (u:TypeId) (ps:String) (ed:Array Edge) (N:Value) (h:a.eval (.tmp t)=N) :
   (execOp a.eval { dst:=some d,op:=Op.assign (.tmp t),type:=u,pos:=ps,after:=ed,guard:=none }).run prog w=.ok (.value N) w:=by(
 unfold execOp
 simp only[h]
 go_simp)
theorem zfw (a:Act) (w:World) (d t:Nat) (u:TypeId) (ps:String) (ed:Array Edge) (b o:Nat) (h:a.eval (.tmp t)=.pointer (some ⟨b,o,none⟩)) :
   (execOp a.eval { dst:=some d,op:=Op.nilCheck (.tmp t),type:=u,pos:=ps,after:=ed,guard:=none }).run prog w=.ok (.value (.pointer (some ⟨b,o,none⟩))) w:=by(
 unfold execOp
 simp only[h]
 go_simp)
theorem zda (a:Act) (w:World) (d t:Nat) (u:TypeId) (ps:String) (ed:Array Edge) (b:Nat) (h:a.eval (.tmp t)=.pointer (some ⟨b,0,none⟩)) (_hl:b<w.heap.size) :
   (execOp a.eval { dst:=some d,op:=Op.fieldAddr 113 (.tmp t) 0,type:=u,pos:=ps,after:=ed,guard:=none }).run prog w=.ok (.value (.pointer (some ⟨b,0,none⟩))) w:=by(
 unfold execOp
 simp only[h]
 go_simp)
theorem zbj (a:Act) (w:World) (d t:Nat) (u:TypeId) (ps:String) (ed:Array Edge) (x:Value) (h:a.eval (.tmp t)=x) :
   (execOp a.eval { dst:=some d,op:=Op.call { callee:=Callee.value (Operand.func 83),args:=#[Operand.tmp t],argTypes:=#[37] },type:=u,pos:=ps,after:=ed,guard:=none }).run prog w=.ok (.enter 83 #[x]) w:=by(
 unfold execOp
 go_simp
 rw[← h]
 simp[Act.eval])
theorem zak (a:Act) (w:World) (d t1 t2 t3:Nat) (u:TypeId) (ps:String) (ed:Array Edge) (x1 x2 x3:Value) (h1:a.eval (.tmp t1)=x1) (h2:a.eval (.tmp t2)=x2) (h3:a.eval (.tmp t3)=x3) :
   (execOp a.eval { dst:=some d,op:=Op.call { callee:=Callee.value (Operand.func 85),args:=#[Operand.tmp t1,Operand.tmp t2,Operand.tmp t3],argTypes:=#[107,107,107] },type:=u,pos:=ps,after:=ed,guard:=none }).run prog w=.ok (.enter 85 #[x1,x2,x3]) w:=by(
 unfold execOp
 go_simp
 rw[← h1,← h2,← h3]
 simp[Act.eval])
theorem zfx (a:Act) (w:World) (d t1 t2 t3:Nat) (u:TypeId) (ps:String) (ed:Array Edge) (x1 x2 x3:Value) (h1:a.eval (.tmp t1)=x1) (h2:a.eval (.tmp t2)=x2) (h3:a.eval (.tmp t3)=x3) :
   (execOp a.eval { dst:=some d,op:=Op.call { callee:=Callee.value (Operand.func 68),args:=#[Operand.tmp t1,Operand.tmp t2,Operand.tmp t3],argTypes:=#[107,107,107] },type:=u,pos:=ps,after:=ed,guard:=none }).run prog w=.ok (.enter 68 #[x1,x2,x3]) w:=by(
 unfold execOp
 go_simp
 rw[← h1,← h2,← h3]
 simp[Act.eval])
theorem zkv {w P w1:World} {A:Nat} {v:Value} {z:Int} (hs:Slot P A 0) (hw:But [] w P) (hA:w.heap.size≤A) (hb:But [] P w1) (hv:Sl .u32 w1 v (wd 4294967296 z.natAbs)) :
  But [] w (oo w1 A 0 v (decide (z<0)))∧za (oo w1 A 0 v (decide (z<0))) A 0 z∧(∀ B,B≠A→Slot P B 0→Slot (oo w1 A 0 v (decide (z<0))) B 0)∧(∀ b o z',b≠A→za P b o z'→za (oo w1 A 0 v (decide (z<0))) b o z')∧P.heap.size≤(oo w1 A 0 v (decide (z<0))).heap.size:=by
 have hs1:=hs.but hb (by simp)
 exact⟨(hw.trans' hb).trans (zbn ..) (by simp;exact hA),zbm hs1 _ _ hv,fun B hB hS=>kv _ _ (hS.but hb (by simp)) (.inl hB),fun b o z' hB hI=>yu hs1 _ _ (hI.but hb) (.inl hB),by rw[zet];exact hb.size⟩
structure yo (W:World) (P Q R:Int) (b0 b1 b8:Nat) (a0 a1 a8 p q r z:Bool) (w:World):Prop where
 but:But [] W w
 s0:a0=true→W.heap.size≤b0∧b0<w.heap.size∧(r=false→Slot w b0 0)
 s1:a1=true→W.heap.size≤b1∧b1<w.heap.size∧(p=false→Slot w b1 0)
 s8:a8=true→W.heap.size≤b8∧b8<w.heap.size∧(q=false→Slot w b8 0)
 n01:a0=true→a1=true→b0≠b1
 n08:a0=true→a8=true→b0≠b8
 n18:a1=true→a8=true→b1≠b8
 hp:p=true→a1=true∧za w b1 0 P
 hq:q=true→a8=true∧za w b8 0 Q
 hr:r=true→a0=true∧za w b0 0 R
 hz:z=true→r=true
theorem yo.qei {W:World} {P Q R:Int} {b0 b1 b8:Nat} {a1 a8 p q r z:Bool} {w:World} (h:yo W P Q R b0 b1 b8 false a1 a8 p q r z w) (t:TypeId):yo W P Q R w.heap.size b1 b8 true a1 a8 p q r z (w.alloc (.cells #[.bool false,.slice none 0 0] t)):=by(
 have hb:But [] w (w.alloc (.cells #[.bool false,.slice none 0 0] t)):=(But.refl _ _).alloc _
 have hs:=hb.size
 exact⟨h.but.trans' hb,fun _=>⟨h.but.size,by simp,fun _=>jg w t⟩,fun e=>⟨(h.s1 e).1,Nat.lt_of_lt_of_le (h.s1 e).2.1 hs,fun k=>((h.s1 e).2.2 k).but hb (by simp)⟩,fun e=>⟨(h.s8 e).1,Nat.lt_of_lt_of_le (h.s8 e).2.1 hs,fun k=>((h.s8 e).2.2 k).but hb (by simp)⟩,
  fun _ e=>Ne.symm (Nat.ne_of_lt (h.s1 e).2.1),fun _ e=>Ne.symm (Nat.ne_of_lt (h.s8 e).2.1),h.n18,fun e=>⟨(h.hp e).1,(h.hp e).2.but hb⟩,fun e=>⟨(h.hq e).1,(h.hq e).2.but hb⟩,fun e=>by have:=(h.hr e).1;simp at this,h.hz⟩)
theorem yo.qeh {W:World} {P Q R:Int} {b0 b1 b8:Nat} {a0 a8 p q r z:Bool} {w:World} (h:yo W P Q R b0 b1 b8 a0 false a8 p q r z w) (t:TypeId):yo W P Q R b0 w.heap.size b8 a0 true a8 p q r z (w.alloc (.cells #[.bool false,.slice none 0 0] t)):=by(
 have hb:But [] w (w.alloc (.cells #[.bool false,.slice none 0 0] t)):=(But.refl _ _).alloc _
 have hs:=hb.size
 exact⟨h.but.trans' hb,fun e=>⟨(h.s0 e).1,Nat.lt_of_lt_of_le (h.s0 e).2.1 hs,fun k=>((h.s0 e).2.2 k).but hb (by simp)⟩,fun _=>⟨h.but.size,by simp,fun _=>jg w t⟩,fun e=>⟨(h.s8 e).1,Nat.lt_of_lt_of_le (h.s8 e).2.1 hs,fun k=>((h.s8 e).2.2 k).but hb (by simp)⟩,
  fun e _=>Nat.ne_of_lt (h.s0 e).2.1,h.n08,fun _ e=>Ne.symm (Nat.ne_of_lt (h.s8 e).2.1),fun e=>by have:=(h.hp e).1;simp at this,fun e=>⟨(h.hq e).1,(h.hq e).2.but hb⟩,fun e=>⟨(h.hr e).1,(h.hr e).2.but hb⟩,h.hz⟩)
theorem yo.qeg {W:World} {P Q R:Int} {b0 b1 b8:Nat} {a0 a1 p q r z:Bool} {w:World} (h:yo W P Q R b0 b1 b8 a0 a1 false p q r z w) (t:TypeId):yo W P Q R b0 b1 w.heap.size a0 a1 true p q r z (w.alloc (.cells #[.bool false,.slice none 0 0] t)):=by(
 have hb:But [] w (w.alloc (.cells #[.bool false,.slice none 0 0] t)):=(But.refl _ _).alloc _
 have hs:=hb.size
 exact⟨h.but.trans' hb,fun e=>⟨(h.s0 e).1,Nat.lt_of_lt_of_le (h.s0 e).2.1 hs,fun k=>((h.s0 e).2.2 k).but hb (by simp)⟩,fun e=>⟨(h.s1 e).1,Nat.lt_of_lt_of_le (h.s1 e).2.1 hs,fun k=>((h.s1 e).2.2 k).but hb (by simp)⟩,fun _=>⟨h.but.size,by simp,fun _=>jg w t⟩,
  h.n01,fun e _=>Nat.ne_of_lt (h.s0 e).2.1,fun e _=>Nat.ne_of_lt (h.s1 e).2.1,fun e=>⟨(h.hp e).1,(h.hp e).2.but hb⟩,fun e=>by have:=(h.hq e).1;simp at this,fun e=>⟨(h.hr e).1,(h.hr e).2.but hb⟩,h.hz⟩)
theorem yo.qjl {W:World} {P Q R:Int} {b0 b1 b8:Nat} {a0 a8 q r z:Bool} {w w':World} (h:yo W P Q R b0 b1 b8 a0 true a8 false q r z w) (hw:But [] W w') (hI:za w' b1 0 P) (hS:∀ B,B≠b1→Slot w B 0→Slot w' B 0) (hK:∀ b o z',b≠b1→za w b o z'→za w' b o z') (hl:w.heap.size≤w'.heap.size):yo W P Q R b0 b1 b8 a0 true a8 true q r z w' :=
 ⟨hw,fun e=>⟨(h.s0 e).1,Nat.lt_of_lt_of_le (h.s0 e).2.1 hl,fun k=>hS _ (h.n01 e rfl) ((h.s0 e).2.2 k)⟩,fun e=>⟨(h.s1 e).1,Nat.lt_of_lt_of_le (h.s1 e).2.1 hl,fun k=>by simp at k⟩,fun e=>⟨(h.s8 e).1,Nat.lt_of_lt_of_le (h.s8 e).2.1 hl,fun k=>hS _ (Ne.symm (h.n18 rfl e)) ((h.s8 e).2.2 k)⟩,
  h.n01,h.n08,h.n18,fun _=>⟨rfl,hI⟩,fun e=>⟨(h.hq e).1,hK _ _ _ (Ne.symm (h.n18 rfl (h.hq e).1)) (h.hq e).2⟩,fun e=>⟨(h.hr e).1,hK _ _ _ (h.n01 (h.hr e).1 rfl) (h.hr e).2⟩,h.hz⟩
theorem yo.qjk {W:World} {P Q R:Int} {b0 b1 b8:Nat} {a0 a1 p r z:Bool} {w w':World} (h:yo W P Q R b0 b1 b8 a0 a1 true p false r z w) (hw:But [] W w') (hI:za w' b8 0 Q) (hS:∀ B,B≠b8→Slot w B 0→Slot w' B 0) (hK:∀ b o z',b≠b8→za w b o z'→za w' b o z') (hl:w.heap.size≤w'.heap.size):yo W P Q R b0 b1 b8 a0 a1 true p true r z w' :=
 ⟨hw,fun e=>⟨(h.s0 e).1,Nat.lt_of_lt_of_le (h.s0 e).2.1 hl,fun k=>hS _ (h.n08 e rfl) ((h.s0 e).2.2 k)⟩,fun e=>⟨(h.s1 e).1,Nat.lt_of_lt_of_le (h.s1 e).2.1 hl,fun k=>hS _ (h.n18 e rfl) ((h.s1 e).2.2 k)⟩,fun e=>⟨(h.s8 e).1,Nat.lt_of_lt_of_le (h.s8 e).2.1 hl,fun k=>by simp at k⟩,
  h.n01,h.n08,h.n18,fun e=>⟨(h.hp e).1,hK _ _ _ (h.n18 (h.hp e).1 rfl) (h.hp e).2⟩,fun _=>⟨rfl,hI⟩,fun e=>⟨(h.hr e).1,hK _ _ _ (h.n08 (h.hr e).1 rfl) (h.hr e).2⟩,h.hz⟩
theorem yo.zby {W:World} {P Q R:Int} {b0 b1 b8:Nat} {a1 a8 p q z:Bool} {w w':World} (h:yo W P Q R b0 b1 b8 true a1 a8 p q false z w) (hw:But [] W w') (hI:za w' b0 0 R) (hS:∀ B,B≠b0→Slot w B 0→Slot w' B 0) (hK:∀ b o z',b≠b0→za w b o z'→za w' b o z') (hl:w.heap.size≤w'.heap.size):yo W P Q R b0 b1 b8 true a1 a8 p q true z w' :=
 ⟨hw,fun e=>⟨(h.s0 e).1,Nat.lt_of_lt_of_le (h.s0 e).2.1 hl,fun k=>by simp at k⟩,fun e=>⟨(h.s1 e).1,Nat.lt_of_lt_of_le (h.s1 e).2.1 hl,fun k=>hS _ (Ne.symm (h.n01 rfl e)) ((h.s1 e).2.2 k)⟩,fun e=>⟨(h.s8 e).1,Nat.lt_of_lt_of_le (h.s8 e).2.1 hl,fun k=>hS _ (Ne.symm (h.n08 rfl e)) ((h.s8 e).2.2 k)⟩,
  h.n01,h.n08,h.n18,fun e=>⟨(h.hp e).1,hK _ _ _ (Ne.symm (h.n01 rfl (h.hp e).1)) (h.hp e).2⟩,fun e=>⟨(h.hq e).1,hK _ _ _ (Ne.symm (h.n08 rfl (h.hq e).1)) (h.hq e).2⟩,fun _=>⟨rfl,hI⟩,fun _=>rfl⟩
theorem yo.done {W:World} {P Q R:Int} {b0 b1 b8:Nat} {a0 a1 a8 p q z:Bool} {w:World} (h:yo W P Q R b0 b1 b8 a0 a1 a8 p q true z w):yo W P Q R b0 b1 b8 a0 a1 a8 p q true true w :=
 ⟨h.but,h.s0,h.s1,h.s8,h.n01,h.n08,h.n18,h.hp,h.hq,h.hr,fun _=>rfl⟩
def qet:Oper:=⟨some 8,.alloc 111,107, "rat.go:118",#[],none⟩
def qes:Oper:=⟨some 9,.alloc 111,107, "rat.go:118",#[],none⟩
def qer:Oper:=⟨some 10,.move (.tmp 1),37, "rat.go:118",#[],none⟩
def qeq:Oper:=⟨some 11,.nilCheck (.tmp 10),0, "rat.go:118",#[⟨2,.data⟩],none⟩
def qep:Oper:=⟨some 12,.fieldAddr 113 (.tmp 11) 0,0, "rat.go:118",#[⟨3,.data⟩],none⟩
def qeo:Oper:=⟨some 13,.move (.tmp 2),37, "rat.go:118",#[],none⟩
def qen:Oper:=⟨some 14,.call { callee:=.value (.func 83),args:=#[.tmp 13],argTypes:=#[37] },107, "rat.go:118",#[⟨5,.data⟩],none⟩
def qem:Oper:=⟨some 15,.call { callee:=.value (.func 85),args:=#[.tmp 9,.tmp 12,.tmp 14],argTypes:=#[107,107,107] },107, "rat.go:118",#[⟨1,.data⟩,⟨4,.data⟩,⟨6,.data⟩,⟨6,.chain⟩],none⟩
def qel:Oper:=⟨some 16,.alloc 111,107, "rat.go:118",#[],none⟩
def qek:Oper:=⟨some 17,.move (.tmp 2),37, "rat.go:118",#[],none⟩
def zvd:Oper:=⟨some 18,.nilCheck (.tmp 17),0, "rat.go:118",#[⟨9,.data⟩],none⟩
def zvc:Oper:=⟨some 19,.fieldAddr 113 (.tmp 18) 0,0, "rat.go:118",#[⟨10,.data⟩],none⟩
def zvb:Oper:=⟨some 20,.move (.tmp 1),37, "rat.go:118",#[],none⟩
def zva:Oper:=⟨some 21,.call { callee:=.value (.func 83),args:=#[.tmp 20],argTypes:=#[37] },107, "rat.go:118",#[⟨12,.data⟩,⟨7,.chain⟩],none⟩
def zuz:Oper:=⟨some 22,.call { callee:=.value (.func 85),args:=#[.tmp 16,.tmp 19,.tmp 21],argTypes:=#[107,107,107] },107, "rat.go:118",#[⟨8,.data⟩,⟨11,.data⟩,⟨13,.data⟩,⟨13,.chain⟩],none⟩
def zuy:Oper:=⟨some 23,.call { callee:=.value (.func 68),args:=#[.tmp 8,.tmp 15,.tmp 22],argTypes:=#[107,107,107] },107, "rat.go:118",#[⟨0,.data⟩,⟨7,.data⟩,⟨14,.data⟩,⟨14,.chain⟩],none⟩
def zux:Oper:=⟨some 7,.assign (.tmp 23),107, "rat.go:118",#[⟨15,.data⟩,⟨15,.chain⟩,⟨0,.phase⟩,⟨1,.phase⟩,⟨2,.phase⟩,⟨3,.phase⟩,⟨4,.phase⟩,⟨5,.phase⟩,⟨6,.phase⟩,⟨7,.phase⟩,⟨8,.phase⟩,⟨9,.phase⟩,⟨10,.phase⟩,⟨11,.phase⟩,⟨12,.phase⟩,⟨13,.phase⟩,⟨14,.phase⟩,⟨15,.phase⟩],none⟩
def ja:Array Oper:=#[qet,qes,qer,qeq,qep,qeo,qen,qem,qel,qek,zvd,zvc,zvb,zva,zuz,zuy,zux]
def zdr (i:Nat):Nat:=match i with
 | 0=>8
 | 1=>9
 | 2=>10
 | 3=>11
 | 4=>12
 | 5=>13
 | 6=>14
 | 7=>15
 | 8=>16
 | 9=>17
 | 10=>18
 | 11=>19
 | 12=>20
 | 13=>21
 | 14=>22
 | 15=>23
 | _=>7
def qig (xb yb:Nat) (N:Nat × Nat × Nat) (i:Nat):Value:=match i with
 | 0=>.pointer (some ⟨N.1,0,none⟩)
 | 1=>.pointer (some ⟨N.2.1,0,none⟩)
 | 2=>.pointer (some ⟨xb,0,none⟩)
 | 3=>.pointer (some ⟨xb,0,none⟩)
 | 4=>.pointer (some ⟨xb,0,none⟩)
 | 5=>.pointer (some ⟨yb,0,none⟩)
 | 6=>.pointer (some ⟨yb,2,none⟩)
 | 7=>.pointer (some ⟨N.2.1,0,none⟩)
 | 8=>.pointer (some ⟨N.2.2,0,none⟩)
 | 9=>.pointer (some ⟨yb,0,none⟩)
 | 10=>.pointer (some ⟨yb,0,none⟩)
 | 11=>.pointer (some ⟨yb,0,none⟩)
 | 12=>.pointer (some ⟨xb,0,none⟩)
 | 13=>.pointer (some ⟨xb,2,none⟩)
 | 14=>.pointer (some ⟨N.2.2,0,none⟩)
 | 15=>.pointer (some ⟨N.1,0,none⟩)
 | _=>.pointer (some ⟨N.1,0,none⟩)
theorem znt:∀ i j,i<17→j<17→zdr i=zdr j→i=j:=fun i j hi hj=>(by decide:∀ i,i<17→∀ j,j<17→zdr i=zdr j→i=j) i hi j hj
theorem zuw (id:Nat) (Q:Exit→Act→World→Prop) (base:Act) (W0:World) (xb yb:Nat) (x y P Z R:Int) (nx ny:Nat) (hs:23<base.tmps.size) (e1:base.eval (.tmp 1)=.pointer (some ⟨xb,0,none⟩)) (e2:base.eval (.tmp 2)=.pointer (some ⟨yb,0,none⟩))
   (hx:zx W0 xb x (nx:Int)) (hy:zx W0 yb y (ny:Int)) (hnx:0<nx) (hny:0<ny) (hxl:(wd 4294967296 x.natAbs).length<8388608) (hyl:(wd 4294967296 y.natAbs).length<8388608) (hnxl:(wd 4294967296 nx).length<8388608) (hnyl:(wd 4294967296 ny).length<8388608) (hP:x*(ny:Int)=P) (hZ:y*(nx:Int)=Z) (hR:R=P+Z) (hPl:(wd 4294967296 P.natAbs).length<8388608) (hZl:(wd 4294967296 Z.natAbs).length<8388608) (hRl:(wd 4294967296 R.natAbs).length<8388608)
   (hQ:∀ w b0 b1 b8,But [] W0 w→W0.heap.size≤b0→za w b0 0 R→Q .normal (bi base [(8,.pointer (some ⟨b0,0,none⟩)),(9,.pointer (some ⟨b1,0,none⟩)),(10,.pointer (some ⟨xb,0,none⟩)),(11,.pointer (some ⟨xb,0,none⟩)),(12,.pointer (some ⟨xb,0,none⟩)),(13,.pointer (some ⟨yb,0,none⟩)),(14,.pointer (some ⟨yb,2,none⟩)),(15,.pointer (some ⟨b1,0,none⟩)),(16,.pointer (some ⟨b8,0,none⟩)),(17,.pointer (some ⟨yb,0,none⟩)),(18,.pointer (some ⟨yb,0,none⟩)),(19,.pointer (some ⟨yb,0,none⟩)),(20,.pointer (some ⟨xb,0,none⟩)),(21,.pointer (some ⟨xb,2,none⟩)),(22,.pointer (some ⟨b8,0,none⟩)),(23,.pointer (some ⟨b0,0,none⟩)),(7,.pointer (some ⟨b0,0,none⟩))]) w) :
   (Code.region id ja true).wp prog Q base W0:=by(
 have hdr:∀ {w},But [] W0.drew w→But [] W0 w:=fun h=>(But.refl _ _).drew.trans' h
 have hT:∀ i,i<17→zdr i<base.tmps.size:=fun i hi=>by
  have h:zdr i≤23:=by revert i;decide
  omega
 have lx:=hx.lt
 have ly:=hy.lt
 refine zfy (by kernel_rfl) (zcb (by kernel_rfl)) (zwt (by kernel_rfl)) (α:=Nat × Nat × Nat) (fun N d w=>yo W0.drew P Z R N.1 N.2.1 N.2.2 (d 0) (d 1) (d 8) (d 7) (d 14) (d 15) (d 16) w) (qig xb yb) zdr 17 (by kernel_rfl) znt hT (0,0,0) ?_ ?_ ?_
 ·exact⟨But.refl _ _,by simp,by simp,by simp,by simp,by simp,by simp,by simp,by simp,by simp,by simp⟩
 ·(
 rintro ⟨b0,b1,b8⟩ d i o a w K hi ho hdi hCl hH he hdep hk
 have hH':yo W0.drew P Z R b0 b1 b8 (d 0) (d 1) (d 8) (d 7) (d 14) (d 15) (d 16) w:=hH
 have hD:=qdo (ps:=[(3,2),(4,3),(6,5),(7,1),(7,4),(7,6),(10,9),(11,10),(13,7),(13,12),(14,8),(14,11),(14,13),(15,0),(15,7),(15,14),(16,0),(16,1),(16,2),(16,3),(16,4),(16,5),(16,6),(16,7),(16,8),(16,9),(16,10),(16,11),(16,12),(16,13),(16,14),(16,15)]) (by kernel_rfl) ho (fun j=>d j=true∧a.eval (.tmp (zdr j))=qig xb yb (b0,b1,b8) j) hdep
 have e1':=(he 1 (fun j hj e=>absurd e.symm (by revert j;decide))).trans e1
 have e2':=(he 2 (fun j hj e=>absurd e.symm (by revert j;decide))).trans e2
 have hB:=hdr hH'.but
 have hlw:=hB.size
 have:i=0∨i=1∨i=2∨i=3∨i=4∨i=5∨i=6∨i=7∨i=8∨i=9∨i=10∨i=11∨i=12∨i=13∨i=14∨i=15∨i=16:=by omega
 rcases this with rfl|rfl|rfl|rfl|rfl|rfl|rfl|rfl|rfl|rfl|rfl|rfl|rfl|rfl|rfl|rfl|rfl
 ·(
 obtain rfl:=so (show ja[0]? =some qet from rfl) ho
 rw[hdi] at hH'
 refine zu (rz a w _ _ _ _) (hk (w.heap.size,b1,b8) _ _ rfl (fun j hj hdj=>?_) (hH'.qei _))
 have:j=0∨j=1∨j=2∨j=3∨j=4∨j=5∨j=6∨j=7∨j=8∨j=9∨j=10∨j=11∨j=12∨j=13∨j=14∨j=15∨j=16:=by omega
 rcases this with rfl|rfl|rfl|rfl|rfl|rfl|rfl|rfl|rfl|rfl|rfl|rfl|rfl|rfl|rfl|rfl|rfl
 all_goals first
  | rfl
  | (rw[hdi] at hdj;simp at hdj)
  | (exfalso;first | (have:=(hH'.hr hdj).1;simp at this) | (have:=(hH'.hr (hH'.hz hdj)).1;simp at this)))
 ·(
 obtain rfl:=so (show ja[1]? =some qes from rfl) ho
 rw[hdi] at hH'
 refine zu (rz a w _ _ _ _) (hk (b0,w.heap.size,b8) _ _ rfl (fun j hj hdj=>?_) (hH'.qeh _))
 have:j=0∨j=1∨j=2∨j=3∨j=4∨j=5∨j=6∨j=7∨j=8∨j=9∨j=10∨j=11∨j=12∨j=13∨j=14∨j=15∨j=16:=by omega
 rcases this with rfl|rfl|rfl|rfl|rfl|rfl|rfl|rfl|rfl|rfl|rfl|rfl|rfl|rfl|rfl|rfl|rfl
 all_goals first
  | rfl
  | (rw[hdi] at hdj;simp at hdj)
  | (exfalso;have:=(hH'.hp hdj).1;simp at this))
 ·obtain rfl:=so (show ja[2]? =some qer from rfl) ho
  exact zu (l5 a w _ _ _ _ _ _ e1') (hk (b0,b1,b8) _ _ rfl (fun _ _ _=>rfl) hH)
 ·obtain rfl:=so (show ja[3]? =some qeq from rfl) ho
  exact zu (zfw a w _ _ _ _ _ _ 0 (hD 2 (by simp)).2) (hk (b0,b1,b8) _ _ rfl (fun _ _ _=>rfl) hH)
 ·obtain rfl:=so (show ja[4]? =some qep from rfl) ho
  exact zu (zda a w _ _ _ _ _ _ (hD 3 (by simp)).2 (by omega)) (hk (b0,b1,b8) _ _ rfl (fun _ _ _=>rfl) hH)
 ·obtain rfl:=so (show ja[5]? =some qeo from rfl) ho
  exact zu (l5 a w _ _ _ _ _ _ e2') (hk (b0,b1,b8) _ _ rfl (fun _ _ _=>rfl) hH)
 ·obtain rfl:=so (show ja[6]? =some qen from rfl) ho
  refine xw (zbj a w _ _ _ _ _ _ (hD 5 (by simp)).2) (R:=fun w' v=>v=.pointer (some ⟨yb,2,none⟩)∧w'=w) ((yc yb y ny w (hy.but hB) hny).mono (fun e w' h=>⟨_,h.1,rfl,h.2⟩)) ?_
  rintro v w' ⟨rfl,rfl⟩
  exact hk (b0,b1,b8) _ _ rfl (fun _ _ _=>rfl) hH
 ·(
 obtain rfl:=so (show ja[7]? =some qem from rfl) ho
 have hs1:=hH'.s1 (hD 1 (by simp)).1
 rw[hdi] at hs1
 refine xw (zak a w _ _ _ _ _ _ _ _ _ _ (hD 1 (by simp)).2 (hD 4 (by simp)).2 (hD 6 (by simp)).2) (R:=fun w' v=>v=.pointer (some ⟨b1,0,none⟩)∧But [] W0.drew w'∧za w' b1 0 P∧(∀ B,B≠b1→Slot w B 0→Slot w' B 0)∧(∀ b o z',b≠b1→za w b o z'→za w' b o z')∧w.heap.size≤w'.heap.size) ((jh b1 xb 0 yb 2 x (ny:Int) P hP W0.drew w (hs1.2.2 rfl) hH'.but hs1.1 hx.drew.up hy.drew.low hxl (by rw[Int.natAbs_natCast];exact hnyl) hPl).mono (fun e w' h=>⟨_,h.1,rfl,h.2⟩)) ?_
 rintro v w' ⟨rfl,k1,k2,k3,k4,k5⟩
 rw[hdi,(hD 1 (by simp)).1] at hH'
 refine hk (b0,b1,b8) _ _ rfl (fun _ _ _=>rfl) ?_
 show yo W0.drew P Z R b0 b1 b8 (d 0) (d 1) (d 8) true (d 14) (d 15) (d 16) w'
 rw[(hD 1 (by simp)).1]
 exact hH'.qjl k1 k2 k3 k4 k5)
 ·(
 obtain rfl:=so (show ja[8]? =some qel from rfl) ho
 rw[hdi] at hH'
 refine zu (rz a w _ _ _ _) (hk (b0,b1,w.heap.size) _ _ rfl (fun j hj hdj=>?_) (hH'.qeg _))
 have:j=0∨j=1∨j=2∨j=3∨j=4∨j=5∨j=6∨j=7∨j=8∨j=9∨j=10∨j=11∨j=12∨j=13∨j=14∨j=15∨j=16:=by omega
 rcases this with rfl|rfl|rfl|rfl|rfl|rfl|rfl|rfl|rfl|rfl|rfl|rfl|rfl|rfl|rfl|rfl|rfl
 all_goals first
  | rfl
  | (rw[hdi] at hdj;simp at hdj)
  | (exfalso;have:=(hH'.hq hdj).1;simp at this))
 ·obtain rfl:=so (show ja[9]? =some qek from rfl) ho
  exact zu (l5 a w _ _ _ _ _ _ e2') (hk (b0,b1,b8) _ _ rfl (fun _ _ _=>rfl) hH)
 ·obtain rfl:=so (show ja[10]? =some zvd from rfl) ho
  exact zu (zfw a w _ _ _ _ _ _ 0 (hD 9 (by simp)).2) (hk (b0,b1,b8) _ _ rfl (fun _ _ _=>rfl) hH)
 ·obtain rfl:=so (show ja[11]? =some zvc from rfl) ho
  exact zu (zda a w _ _ _ _ _ _ (hD 10 (by simp)).2 (by omega)) (hk (b0,b1,b8) _ _ rfl (fun _ _ _=>rfl) hH)
 ·obtain rfl:=so (show ja[12]? =some zvb from rfl) ho
  exact zu (l5 a w _ _ _ _ _ _ e1') (hk (b0,b1,b8) _ _ rfl (fun _ _ _=>rfl) hH)
 ·obtain rfl:=so (show ja[13]? =some zva from rfl) ho
  refine xw (zbj a w _ _ _ _ _ _ (hD 12 (by simp)).2) (R:=fun w' v=>v=.pointer (some ⟨xb,2,none⟩)∧w'=w) ((yc xb x nx w (hx.but hB) hnx).mono (fun e w' h=>⟨_,h.1,rfl,h.2⟩)) ?_
  rintro v w' ⟨rfl,rfl⟩
  exact hk (b0,b1,b8) _ _ rfl (fun _ _ _=>rfl) hH
 ·(
 obtain rfl:=so (show ja[14]? =some zuz from rfl) ho
 have hs1:=hH'.s8 (hD 8 (by simp)).1
 rw[hdi] at hs1
 refine xw (zak a w _ _ _ _ _ _ _ _ _ _ (hD 8 (by simp)).2 (hD 11 (by simp)).2 (hD 13 (by simp)).2) (R:=fun w' v=>v=.pointer (some ⟨b8,0,none⟩)∧But [] W0.drew w'∧za w' b8 0 Z∧(∀ B,B≠b8→Slot w B 0→Slot w' B 0)∧(∀ b o z',b≠b8→za w b o z'→za w' b o z')∧w.heap.size≤w'.heap.size) ((jh b8 yb 0 xb 2 y (nx:Int) Z hZ W0.drew w (hs1.2.2 rfl) hH'.but hs1.1 hy.drew.up hx.drew.low hyl (by rw[Int.natAbs_natCast];exact hnxl) hZl).mono (fun e w' h=>⟨_,h.1,rfl,h.2⟩)) ?_
 rintro v w' ⟨rfl,k1,k2,k3,k4,k5⟩
 rw[hdi,(hD 8 (by simp)).1] at hH'
 refine hk (b0,b1,b8) _ _ rfl (fun _ _ _=>rfl) ?_
 show yo W0.drew P Z R b0 b1 b8 (d 0) (d 1) (d 8) (d 7) true (d 15) (d 16) w'
 rw[(hD 8 (by simp)).1]
 exact hH'.qjk k1 k2 k3 k4 k5)
 ·(
 obtain rfl:=so (show ja[15]? =some zuy from rfl) ho
 have d0:=(hD 0 (by simp)).1
 have hs1:=hH'.s0 d0
 rw[hdi] at hs1
 have hp7:=hH'.hp (hD 7 (by simp)).1
 have hq14:=hH'.hq (hD 14 (by simp)).1
 refine xw (zfx a w _ _ _ _ _ _ _ _ _ _ (hD 0 (by simp)).2 (hD 7 (by simp)).2 (hD 14 (by simp)).2) (R:=fun w' v=>v=.pointer (some ⟨b0,0,none⟩)∧But [] W0.drew w'∧za w' b0 0 R∧(∀ B,B≠b0→Slot w B 0→Slot w' B 0)∧(∀ b o z',b≠b0→za w b o z'→za w' b o z')∧w.heap.size≤w'.heap.size) ((zir b0 0 b1 0 b8 0 P Z R w (hs1.2.2 rfl) (hH'.n01 d0 hp7.1) (hH'.n08 d0 hq14.1) hp7.2 hq14.2 hPl hZl (by omega) hR).mono (fun e w' h=>by
  obtain⟨h1,w1,v,h2,h3,rfl⟩:=h
  exact⟨_,h1,rfl,zkv (hs1.2.2 rfl) hH'.but hs1.1 h2 h3⟩)) ?_
 rintro v w' ⟨rfl,k1,k2,k3,k4,k5⟩
 rw[hdi,d0] at hH'
 refine hk (b0,b1,b8) _ _ rfl (fun _ _ _=>rfl) ?_
 show yo W0.drew P Z R b0 b1 b8 (d 0) (d 1) (d 8) (d 7) (d 14) true (d 16) w'
 rw[d0]
 exact hH'.zby k1 k2 k3 k4 k5)
 ·(
 obtain rfl:=so (show ja[16]? =some zux from rfl) ho
 have d15:=(hD 15 (by simp)).1
 rw[d15] at hH'
 refine zu (zql a w _ _ _ _ _ _ (hD 15 (by simp)).2) (hk (b0,b1,b8) _ _ rfl (fun _ _ _=>rfl) ?_)
 show yo W0.drew P Z R b0 b1 b8 (d 0) (d 1) (d 8) (d 7) (d 14) (d 15) true w
 rw[d15]
 exact hH'.done))
 ·rintro ⟨b0,b1,b8⟩ d w hd hH
  have hH':yo W0.drew P Z R b0 b1 b8 (d 0) (d 1) (d 8) (d 7) (d 14) (d 15) (d 16) w:=hH
  exact hQ w b0 b1 b8 (hdr hH'.but) (hH'.s0 (hd 0 (by omega))).1 (hH'.hr (hd 15 (by omega))).2)
theorem zqx (zb xb yb:Nat) (x y:Int) (nx ny:Nat) (w:World) (hz0:Slot w zb 0) (hz2:Slot w zb 2) (hx:zx w xb x (nx:Int)) (hy:zx w yb y (ny:Int)) (hnx:0<nx) (hny:0<ny) (hxl:(wd 4294967296 x.natAbs).length<8388608) (hyl:(wd 4294967296 y.natAbs).length<8388608) (hnxl:(wd 4294967296 nx).length<8388608) (hnyl:(wd 4294967296 ny).length<8388608) (P Z R D:Int) (hP:x*(ny:Int)=P) (hZ:y*(nx:Int)=Z) (hR:R=P+Z) (hD:(nx:Int)*(ny:Int)=D) (hPl:(wd 4294967296 P.natAbs).length<8388608) (hZl:(wd 4294967296 Z.natAbs).length<8388608) (hRl:(wd 4294967296 R.natAbs).length<8388608) (hDl:(wd 4294967296 D.natAbs).length<8388608) (hD0:D≠0) (A B:Int) (eA:Hid (A=zch (if D<0 then -R else R) D.natAbs)) (eB:Hid (B=zci R D.natAbs)) :
   Calls prog 162 #[.pointer (some ⟨zb,0,none⟩),.pointer (some ⟨xb,0,none⟩),.pointer (some ⟨yb,0,none⟩)] w fun e w'=>e=.returned (.pointer (some ⟨zb,0,none⟩))∧But [zb] w w'∧zx w' zb A B:=by(
 have HX:=af hx
 have HY:=af hy
 have HZ0:=af hz0
 have HZ2:=af hz2
 have REG:=af (fun (Q:Exit→Act→World→Prop) (base:Act) (hs:23<base.tmps.size) (e1:base.eval (.tmp 1)=.pointer (some ⟨xb,0,none⟩)) (e2:base.eval (.tmp 2)=.pointer (some ⟨yb,0,none⟩))=>zuw 1 Q base w xb yb x y P Z R nx ny hs e1 e2 hx hy hnx hny hxl hyl hnxl hnyl hP hZ hR hPl hZl hRl)
 have DX:=af (fun W (h:zx W xb x (nx:Int))=>yc xb x nx W h hnx)
 have DY:=af (fun W (h:zx W yb y (ny:Int))=>yc yb y ny W h hny)
 have MU:=af (fun (A:Nat) (w P:World) (hs:Slot P A 0) (hw:But [] w P) (hA:w.heap.size≤A) (hx:zx w xb x (nx:Int)) (hy:zx w yb y (ny:Int))=>jh A xb 2 yb 2 (nx:Int) (ny:Int) D hD w P hs hw hA hx.low hy.low (by rw[Int.natAbs_natCast];exact hnxl) (by rw[Int.natAbs_natCast];exact hnyl) hDl)
 have SF:=af (fun (b0 b1:Nat) (W:World) (h0:Slot W zb 0) (h2:Slot W zb 2) (ha:za W b0 0 R) (hb:za W b1 0 D)=>vw zb b0 0 b1 0 R D W h0 h2 ha hb hRl hDl hD0 A B eA eB)
 clear hx hy hz0 hz2 hnx hny hxl hyl hnxl hnyl hP hZ hR hD hPl hZl hRl hDl hD0 eA eB
 go_enter func162,ntmps162
 go_wp2_with fail
 refine ae REG _ _ (by simp) (by simp[Act.eval]) (by simp[Act.eval]) ?_
 intro w1 b0 b1 b8 hb1 hb0 hI
 simp only[bi,List.foldl_cons,List.foldl_nil,Act.put,List.setIfInBounds_toArray,List.set_cons_zero,List.set_cons_succ]
 obtain⟨W0,hW0⟩:∃ W0,W0=w1.alloc (.cells #[.bool false,.slice none 0 0] 111):=⟨_,rfl⟩
 have hs:=jg w1 111
 rw[← hW0] at hs
 have hbw:But [] w1 W0:=by rw[hW0];exact (But.refl _ _).alloc _
 have hb2:=hb1.trans' hbw
 have K0:=af (And.intro hs (And.intro hbw (And.intro hb1 (And.intro hb0 hI))))
 have KX:=af ((ae HX).but hb2)
 have KY:=af ((ae HY).but hb2)
 have HW0:=af hW0
 clear hW0 hs hbw hb1 hb0 hb2 hI
 obtain⟨g,hg⟩:∃ g,g=w1.heap.size:=⟨_,rfl⟩
 go_wp2_with fail
 rw[← ae HW0,← hg]
 rw[← hg] at K0
 have HG:=af hg
 clear hg
 refine (ae DX _ (ae KX)).mono ?_
 rintro e w2 ⟨rfl,hw⟩
 obtain rfl:=hw.symm
 clear hw
 go_wp2_with fail
 refine (ae DY _ (ae KY)).mono ?_
 rintro e w2 ⟨rfl,hw⟩
 obtain rfl:=hw.symm
 clear hw
 go_wp2_with fail
 refine (ae MU g w1 W0 (ae K0).1 (ae K0).2.1 (Nat.le_of_eq (ae HG).symm) ((ae HX).but (ae K0).2.2.1) ((ae HY).but (ae K0).2.2.1)).mono ?_
 rintro e w2 ⟨rfl,k1,k2,k3,k4,k5⟩
 have S0:=af (And.intro (ae HZ0) (ae HZ2))
 have FIN:Hid (Slot w2 zb 0∧Slot w2 zb 2∧za w2 b0 0 R∧za w2 g 0 D∧But [] w w2):=by
  obtain⟨hs,hbw,hb1,hb0,hI⟩:=ae K0
  have hb3:=hb1.trans' k1
  exact⟨(ae HZ0).but hb3 (by simp),(ae HZ2).but hb3 (by simp),hI.but k1,k2,hb3⟩
 clear k1 k2 k3 k4 k5 S0 K0 KX KY HW0 HG MU DX DY REG HX HY HZ0 HZ2
 go_wp2_with fail
 refine (ae SF b0 g _ (ae FIN).1 (ae FIN).2.1 (ae FIN).2.2.1 (ae FIN).2.2.2.1).mono ?_
 rintro e w3 ⟨rfl,k1,k2⟩
 have F3:=af (And.intro ((ae FIN).2.2.2.2.of_nil.trans k1 (fun x hx=>.inl hx)) k2)
 clear k1 k2 FIN SF
 go_wp2
 go_ret
 exact⟨rfl,(ae F3).1,(ae F3).2⟩)
end Go.Proofs.YtagmkkiagjmimaaGreatDoor
