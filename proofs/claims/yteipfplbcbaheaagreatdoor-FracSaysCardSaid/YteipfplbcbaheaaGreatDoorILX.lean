/- Texts of fractions, of both kinds, are t -/
import Derived.Test.YteipfplbcbaheaaGreatDoorIF10
import Derived.Test.YteipfplbcbaheaaGreatDoorIHN
import Derived.Test.YteipfplbcbaheaaGreatDoorIHS
namespace Go.Proofs.YteipfplbcbaheaaGreatDoor
open Go.RowKit
theorem nba_ext {a b:ByteArray} (h:a.data.toList=b.data.toList):a=b:=by
 cases a;cases b;simp only [ByteArray.mk.injEq];exact Array.ext' h
theorem nba_app (a b:ByteArray):(a++b).data.toList=a.data.toList++b.data.toList:=by simp
theorem txt_same (x:Rat):fracTxt (decide (x.num<0)) x.num.natAbs x.den=ratTxt x.num x.den:=by
 apply nba_ext
 have e:decI x.num=(if decide (x.num<0) then [45] else [])++Lib.decDigits x.num.natAbs:=by
  rw [decI]
  by_cases h:x.num<0
  ·rw [if_pos h,decide_eq_true h];rfl
  ·rw [if_neg h,decide_eq_false h];rfl
 have e2:decI (x.den:Int)=Lib.decDigits x.den:=by rw [decI,if_neg (by omega),Int.natAbs_natCast]
 generalize decide (x.num<0)=r at *
 rw [fracTxt,ratTxt,nba_app]
 by_cases hq:x.den=1
 ·rw [if_pos hq,if_pos hq,e]
  cases r <;> simp
 ·rw [if_neg hq,if_neg hq,nba_app,nba_app,nba_app,e,e2]
  cases r <;> simp
theorem txt_zero:fracTxt false 0 1=⟨#[48]⟩:=by
 rw [fracTxt]
 have:Lib.decDigits 0=[48]:=by rw [Lib.decDigits,dif_pos (by omega)];rfl
 rw [this]
 apply nba_ext
 rw [nba_app];rfl
theorem len_zero:Len (0:Rat) 1000000:=⟨by show (wd 18446744073709551616 0).length≤_;rw [wd_zero];simp,Nat.le_trans (wd_length_le (B:=18446744073709551616) (by omega) 1 1 (by omega)) (by omega)⟩
theorem lenU_two (f:Rat) (hp:f.num.natAbs < 18446744073709551616) (hq:f.den < 18446744073709551616):LenU f 2:=⟨len_le_two _ hp,len_le_two _ hq⟩
theorem lenU_len {f:Rat} {n:Nat} (h:Len f n):LenU f (2*n):=by
 have h1:=lt_of_wd_length (B:=18446744073709551616) (by omega) _ n h.1
 have h2:=lt_of_wd_length (B:=18446744073709551616) (by omega) _ n h.2
 have e:(18446744073709551616:Nat)^n=4294967296^(2*n):=by rw [Nat.pow_mul]
 rw [e] at h1 h2
 exact ⟨wd_length_le (by omega) _ _ h1,wd_length_le (by omega) _ _ h2⟩
end Go.Proofs.YteipfplbcbaheaaGreatDoor

namespace Go.Proofs.YteipfplbcbaheaaGreatDoor
open Go.RowKit
set_option maxHeartbeats 8000000
set_option maxRecDepth 100000
def RefV (f:Rat) (w:World) (v:Value):Prop:=∃ zb,v=.pointer (some ⟨zb,0,none⟩)∧RatIs w zb f
theorem RefV.but {f:Rat} {w w':World} {v:Value} (h:RefV f w v) (hb:But [] w w'):RefV f w' v:=by
 obtain ⟨zb,e,h⟩:=h
 exact ⟨zb,e,h.but hb⟩
def DivV (f g:Rat) (w:World) (v:Value):Prop:=∃ zb,v=.pointer (some ⟨zb,0,none⟩)∧(g.num≠0→RatIs w zb (f/g))
theorem DivV.but {f g:Rat} {w w':World} {v:Value} (h:DivV f g w v) (hb:But [] w w'):DivV f g w' v:=by
 obtain ⟨zb,e,h⟩:=h
 exact ⟨zb,e,fun k=>(h k).but hb⟩
theorem one_ok (v:Value) (x:Rat) (zb:Nat) (w:World) (hf:FracAt w v x) (lx:Len x 1000) (hz:RatIs w zb x) (htab:Lib.TabIs Tryz.prog w "internal/strconv.uint64pow10" .u64 Lib.pow10Tab) :
  Calls Tryz.prog 20 #[v,.nilIface,.pointer (some ⟨zb,0,none⟩),.int .i64 0] w fun e w'=>e=.returned (.bool true)∧But [] w w':=by
 obtain ⟨t,ht⟩:∃ t,t=fracTxt (decide (x.num<0)) x.num.natAbs x.den:=⟨_,rfl⟩
 have TF:=hide (fun W (h:But [] w W)=>fracText_len v x W (hf.but h) (lx.mono (by omega)) (TabIs.but htab h) t ht)
 have TX:=hide (fun W (h:But [] w W)=>refText_any zb x W (hz.but h) ((lenU_len lx).mono (by omega)) t (ht.trans (txt_same x)))
 obtain ⟨xx,xy,xp,rfl,-⟩:=hf.agg
 clear hf lx hz htab ht
 generalize decide (x.num<0)=xs at *
 obtain ⟨V,hV⟩:∃ V,V=w.alloc (.cells #[.bool xs,.int .u64 xx,.int .u64 xy,.pointer xp] 27):=⟨_,rfl⟩
 obtain ⟨gf,hgf⟩:∃ gf,gf=w.heap.size:=⟨_,rfl⟩
 have c0:V.cell? ⟨gf,0,none⟩=some (.bool xs):=by rw [hV,hgf];simp
 have c1:V.cell? ⟨gf,1,none⟩=some (.int .u64 xx):=by rw [hV,hgf];simp
 have c2:V.cell? ⟨gf,2,none⟩=some (.int .u64 xy):=by rw [hV,hgf];simp
 have c3:V.cell? ⟨gf,3,none⟩=some (.pointer xp):=by rw [hV,hgf];simp
 have bV:But [] w V:=by rw [hV];exact (But.refl _ _).alloc _
 have HV:=hide hV
 have HB:=hide bV
 clear hV bV
 go_enter Tryz.func20,Tryz.ntmps20
 go_wp2_with fail
 rw [← unhide HV]
 try rw [← hgf]
 clear hgf HV
 refine (unhide TF _ (unhide HB)).mono ?_
 rintro e w1 ⟨rfl,b1⟩
 have B1:=hide ((unhide HB).trans' b1)
 clear b1
 go_wp2_with fail
 refine (unhide TX _ (unhide B1)).mono ?_
 rintro e w2 ⟨rfl,b2⟩
 have B2:=hide ((unhide B1).trans' b2)
 clear b2
 go_wp2
 go_ret
 exact ⟨rfl,unhide B2⟩
theorem one_err (zv:Option Addr) (n:Int) (hn0:0<n) (hn1:n<100) (w:World) (htab:Lib.TabIs Tryz.prog w "internal/strconv.uint64pow10" .u64 Lib.pow10Tab) (hg:w.cell? ⟨1,0,none⟩=some (.iface 235 (.agg #[.pointer (some ⟨8,32,none⟩)]))) :
  Calls Tryz.prog 20 #[.agg #[.bool false,.int .u64 0,.int .u64 0,.pointer none],.iface 35 (.int .i64 n),.pointer zv,.int .i64 n] w fun e w'=>e=.returned (.bool true)∧But [] w w':=by
 have TZ:=hide (fun W h=>fracText_len (.agg #[.bool false,.int .u64 0,.int .u64 0,.pointer none]) 0 W (int_at (s:=false) (p:=0) (by simp [sgn]) (by omega) (fun e=>by simp at e)) len_zero h ⟨#[48]⟩ txt_zero.symm)
 obtain ⟨V,hV⟩:∃ V,V=w.alloc (.cells #[.bool false,.int .u64 0,.int .u64 0,.pointer none] 27):=⟨_,rfl⟩
 obtain ⟨gf,hgf⟩:∃ gf,gf=w.heap.size:=⟨_,rfl⟩
 have c0:V.cell? ⟨gf,0,none⟩=some (.bool false):=by rw [hV,hgf];simp
 have c1:V.cell? ⟨gf,1,none⟩=some (.int .u64 0):=by rw [hV,hgf];simp
 have c2:V.cell? ⟨gf,2,none⟩=some (.int .u64 0):=by rw [hV,hgf];simp
 have c3:V.cell? ⟨gf,3,none⟩=some (.pointer none):=by rw [hV,hgf];simp
 have bV:But [] w V:=by rw [hV];exact (But.refl _ _).alloc _
 have TE:=hide (tell_errno n V (bV.cell_some hg (by simp)))
 have n0:(n==0)=false:=beq_eq_false_iff_ne.2 (by omega)
 have n1:¬ n=0:=by omega
 have HT:=hide htab
 have HV:=hide hV
 have HB:=hide bV
 clear hV bV htab hg
 go_enter Tryz.func20,Tryz.ntmps20
 go_wp2_with fail
 rw [← unhide HV]
 try rw [← hgf]
 clear hgf HV
 refine (unhide TE).mono ?_
 rintro e w1 ⟨rfl,b1⟩
 replace c0:=b1.cell_some c0 (by simp)
 replace c1:=b1.cell_some c1 (by simp)
 replace c2:=b1.cell_some c2 (by simp)
 replace c3:=b1.cell_some c3 (by simp)
 have B1:=hide ((unhide HB).trans' b1)
 clear b1
 go_wp2_with fail
 refine (unhide TZ _ (TabIs.but (unhide HT) (unhide B1))).mono ?_
 rintro e w2 ⟨rfl,b2⟩
 have B2:=hide ((unhide B1).trans' b2)
 clear b2
 go_wp2
 go_ret
 exact ⟨rfl,unhide B2⟩
theorem run_mvS (a:Act) (w:World) (d t:Nat) (u:TypeId) (ps:String) (ed:Array Edge) (gd:Option (Nat × Bool)) (N:Value) (h:a.eval (.tmp t)=N) :
  (execOp a.eval { dst:=some d,op:=Op.move (.tmp t),type:=u,pos:=ps,after:=ed,guard:=gd }).run Tryz.prog w=.ok (.value N) w:=by
 unfold execOp
 simp only [h]
 go_simp
theorem run_asS (a:Act) (w:World) (d t:Nat) (u:TypeId) (ps:String) (ed:Array Edge) (gd:Option (Nat × Bool)) (N:Value) (h:a.eval (.tmp t)=N) :
  (execOp a.eval { dst:=some d,op:=Op.assign (.tmp t),type:=u,pos:=ps,after:=ed,guard:=gd }).run Tryz.prog w=.ok (.value N) w:=by
 unfold execOp
 simp only [h]
 go_simp
theorem run_ldF (a:Act) (w:World) (d t:Nat) (u:TypeId) (ps:String) (ed:Array Edge) (gd:Option (Nat × Bool)) (b:Nat) (s:Bool) (x y:Int) (p:Option Addr) (h:a.eval (.tmp t)=.pointer (some ⟨b,0,none⟩)) (hc:P4 w b s x y p) :
  (execOp a.eval { dst:=some d,op:=Op.load 27 (.tmp t),type:=u,pos:=ps,after:=ed,guard:=gd }).run Tryz.prog w=.ok (.value (.agg #[.bool s,.int .u64 x,.int .u64 y,.pointer p])) w:=by
 obtain ⟨c0,c1,c2,c3⟩:=hc
 unfold execOp
 simp only [h]
 go_simp
theorem run_ldQ (a:Act) (w:World) (d t:Nat) (u:TypeId) (ps:String) (ed:Array Edge) (gd:Option (Nat × Bool)) (b:Nat) (x y:Int) (h:a.eval (.tmp t)=.pointer (some ⟨b,0,none⟩)) (c0:w.cell? ⟨b,0,none⟩=some (.int .i64 x)) (c1:w.cell? ⟨b,1,none⟩=some (.int .i64 y)) :
  (execOp a.eval { dst:=some d,op:=Op.load 23 (.tmp t),type:=u,pos:=ps,after:=ed,guard:=gd }).run Tryz.prog w=.ok (.value (.agg #[.int .i64 x,.int .i64 y])) w:=by
 unfold execOp
 simp only [h]
 go_simp
theorem run_cF (a:Act) (w:World) (d t:Nat) (u:TypeId) (ps:String) (ed:Array Edge) (gd:Option (Nat × Bool)) (x:Value) (h:a.eval (.tmp t)=x) :
  (execOp a.eval { dst:=some d,op:=Op.call { callee:=Callee.value (Operand.func 8),args:=#[Operand.tmp t],argTypes:=#[23] },type:=u,pos:=ps,after:=ed,guard:=gd }).run Tryz.prog w=.ok (.enter 8 #[x]) w:=by
 unfold execOp
 go_simp
 rw [← h]
 simp [Act.eval]
theorem run_cText (a:Act) (w:World) (d t:Nat) (u:TypeId) (ps:String) (ed:Array Edge) (gd:Option (Nat × Bool)) (x:Value) (h:a.eval (.tmp t)=x) :
  (execOp a.eval { dst:=some d,op:=Op.call { callee:=Callee.value (Operand.func 12),args:=#[Operand.tmp t],argTypes:=#[27] },type:=u,pos:=ps,after:=ed,guard:=gd }).run Tryz.prog w=.ok (.enter 12 #[x]) w:=by
 unfold execOp
 go_simp
 rw [← h]
 simp [Act.eval]
theorem run_cOf (a:Act) (w:World) (d t:Nat) (u:TypeId) (ps:String) (ed:Array Edge) (gd:Option (Nat × Bool)) (x:Value) (h:a.eval (.tmp t)=x) :
  (execOp a.eval { dst:=some d,op:=Op.call { callee:=Callee.value (Operand.func 9),args:=#[Operand.tmp t],argTypes:=#[23] },type:=u,pos:=ps,after:=ed,guard:=gd }).run Tryz.prog w=.ok (.enter 9 #[x]) w:=by
 unfold execOp
 go_simp
 rw [← h]
 simp [Act.eval]
theorem run_cRText (a:Act) (w:World) (d t:Nat) (u:TypeId) (ps:String) (ed:Array Edge) (gd:Option (Nat × Bool)) (x:Value) (h:a.eval (.tmp t)=x) :
  (execOp a.eval { dst:=some d,op:=Op.call { callee:=Callee.value (Operand.func 13),args:=#[Operand.tmp t],argTypes:=#[29] },type:=u,pos:=ps,after:=ed,guard:=gd }).run Tryz.prog w=.ok (.enter 13 #[x]) w:=by
 unfold execOp
 go_simp
 rw [← h]
 simp [Act.eval]
theorem run_cAdd (a:Act) (w:World) (d t1 t2:Nat) (u:TypeId) (ps:String) (ed:Array Edge) (gd:Option (Nat × Bool)) (x1 x2:Value) (h1:a.eval (.tmp t1)=x1) (h2:a.eval (.tmp t2)=x2) :
  (execOp a.eval { dst:=some d,op:=Op.call { callee:=Callee.value (Operand.func 14),args:=#[Operand.tmp t1,Operand.tmp t2],argTypes:=#[27,27] },type:=u,pos:=ps,after:=ed,guard:=gd }).run Tryz.prog w=.ok (.enter 14 #[x1,x2]) w:=by
 unfold execOp
 go_simp
 rw [← h1,← h2]
 simp [Act.eval]
theorem run_cSub (a:Act) (w:World) (d t1 t2:Nat) (u:TypeId) (ps:String) (ed:Array Edge) (gd:Option (Nat × Bool)) (x1 x2:Value) (h1:a.eval (.tmp t1)=x1) (h2:a.eval (.tmp t2)=x2) :
  (execOp a.eval { dst:=some d,op:=Op.call { callee:=Callee.value (Operand.func 16),args:=#[Operand.tmp t1,Operand.tmp t2],argTypes:=#[27,27] },type:=u,pos:=ps,after:=ed,guard:=gd }).run Tryz.prog w=.ok (.enter 16 #[x1,x2]) w:=by
 unfold execOp
 go_simp
 rw [← h1,← h2]
 simp [Act.eval]
theorem run_cMul (a:Act) (w:World) (d t1 t2:Nat) (u:TypeId) (ps:String) (ed:Array Edge) (gd:Option (Nat × Bool)) (x1 x2:Value) (h1:a.eval (.tmp t1)=x1) (h2:a.eval (.tmp t2)=x2) :
  (execOp a.eval { dst:=some d,op:=Op.call { callee:=Callee.value (Operand.func 18),args:=#[Operand.tmp t1,Operand.tmp t2],argTypes:=#[27,27] },type:=u,pos:=ps,after:=ed,guard:=gd }).run Tryz.prog w=.ok (.enter 18 #[x1,x2]) w:=by
 unfold execOp
 go_simp
 rw [← h1,← h2]
 simp [Act.eval]
theorem run_cRAdd (a:Act) (w:World) (d t1 t2:Nat) (u:TypeId) (ps:String) (ed:Array Edge) (gd:Option (Nat × Bool)) (x1 x2:Value) (h1:a.eval (.tmp t1)=x1) (h2:a.eval (.tmp t2)=x2) :
  (execOp a.eval { dst:=some d,op:=Op.call { callee:=Callee.value (Operand.func 15),args:=#[Operand.tmp t1,Operand.tmp t2],argTypes:=#[29,29] },type:=u,pos:=ps,after:=ed,guard:=gd }).run Tryz.prog w=.ok (.enter 15 #[x1,x2]) w:=by
 unfold execOp
 go_simp
 rw [← h1,← h2]
 simp [Act.eval]
theorem run_cRSub (a:Act) (w:World) (d t1 t2:Nat) (u:TypeId) (ps:String) (ed:Array Edge) (gd:Option (Nat × Bool)) (x1 x2:Value) (h1:a.eval (.tmp t1)=x1) (h2:a.eval (.tmp t2)=x2) :
  (execOp a.eval { dst:=some d,op:=Op.call { callee:=Callee.value (Operand.func 17),args:=#[Operand.tmp t1,Operand.tmp t2],argTypes:=#[29,29] },type:=u,pos:=ps,after:=ed,guard:=gd }).run Tryz.prog w=.ok (.enter 17 #[x1,x2]) w:=by
 unfold execOp
 go_simp
 rw [← h1,← h2]
 simp [Act.eval]
theorem run_cRMul (a:Act) (w:World) (d t1 t2:Nat) (u:TypeId) (ps:String) (ed:Array Edge) (gd:Option (Nat × Bool)) (x1 x2:Value) (h1:a.eval (.tmp t1)=x1) (h2:a.eval (.tmp t2)=x2) :
  (execOp a.eval { dst:=some d,op:=Op.call { callee:=Callee.value (Operand.func 19),args:=#[Operand.tmp t1,Operand.tmp t2],argTypes:=#[29,29] },type:=u,pos:=ps,after:=ed,guard:=gd }).run Tryz.prog w=.ok (.enter 19 #[x1,x2]) w:=by
 unfold execOp
 go_simp
 rw [← h1,← h2]
 simp [Act.eval]
theorem run_cRDiv (a:Act) (w:World) (d t1 t2:Nat) (u:TypeId) (ps:String) (ed:Array Edge) (gd:Option (Nat × Bool)) (x1 x2:Value) (h1:a.eval (.tmp t1)=x1) (h2:a.eval (.tmp t2)=x2) :
  (execOp a.eval { dst:=some d,op:=Op.call { callee:=Callee.value (Operand.func 21),args:=#[Operand.tmp t1,Operand.tmp t2],argTypes:=#[29,29] },type:=u,pos:=ps,after:=ed,guard:=gd }).run Tryz.prog w=.ok (.enter 21 #[x1,x2]) w:=by
 unfold execOp
 go_simp
 rw [← h1,← h2]
 simp [Act.eval]
theorem run_cOne (a:Act) (w:World) (d t1 t2 t3 t4:Nat) (u:TypeId) (ps:String) (ed:Array Edge) (gd:Option (Nat × Bool)) (x1 x2 x3 x4:Value) (h1:a.eval (.tmp t1)=x1) (h2:a.eval (.tmp t2)=x2) (h3:a.eval (.tmp t3)=x3) (h4:a.eval (.tmp t4)=x4) :
  (execOp a.eval { dst:=some d,op:=Op.call { callee:=Callee.value (Operand.func 20),args:=#[Operand.tmp t1,Operand.tmp t2,Operand.tmp t3,Operand.tmp t4],argTypes:=#[27,32,29,35] },type:=u,pos:=ps,after:=ed,guard:=gd }).run Tryz.prog w=.ok (.enter 20 #[x1,x2,x3,x4]) w:=by
 unfold execOp
 go_simp
 rw [← h1,← h2,← h3,← h4]
 simp [Act.eval]
theorem run_neS (a:Act) (w:World) (d t1 t2:Nat) (u:TypeId) (ps:String) (ed:Array Edge) (gd:Option (Nat × Bool)) (s:ByteArray) (h1:a.eval (.tmp t1)=.string s) (h2:a.eval (.tmp t2)=.string s) :
  (execOp a.eval { dst:=some d,op:=Op.binOp BinOp.neq 9 (.tmp t1) (.tmp t2) 9,type:=u,pos:=ps,after:=ed,guard:=gd }).run Tryz.prog w=.ok (.value (.bool false)) w:=by
 unfold execOp
 simp only [h1,h2]
 go_simp
theorem run_pkF (a:Act) (w:World) (d t1 t2:Nat) (u:TypeId) (ps:String) (ed:Array Edge) (gd:Option (Nat × Bool)) (h1:a.eval (.tmp t1)=.bool false) (h2:a.eval (.tmp t2)=.bool false) :
  (execOp a.eval { dst:=some d,op:=Op.pick (.tmp t1) (.const (.bool true)) (.tmp t2),type:=u,pos:=ps,after:=ed,guard:=gd }).run Tryz.prog w=.ok (.value (.bool false)) w:=by
 have e:a.eval (.const (.bool true))=.bool true:=rfl
 unfold execOp
 simp only [h1,h2,e]
 go_simp
theorem run_ntT (a:Act) (w:World) (d t:Nat) (u:TypeId) (ps:String) (ed:Array Edge) (gd:Option (Nat × Bool)) (h:a.eval (.tmp t)=.bool true) :
  (execOp a.eval { dst:=some d,op:=Op.unOp UnOp.not 4 (.tmp t),type:=u,pos:=ps,after:=ed,guard:=gd }).run Tryz.prog w=.ok (.value (.bool false)) w:=by
 unfold execOp
 simp only [h]
 go_simp
def saysA:Array Oper:=#[{ dst:=some 22,op:=Op.load 23 (Operand.tmp 4),type:=23,pos:= "law.go:94",after:=#[],guard:=none },{ dst:=some 23,op:=Op.call { callee:=Callee.value (Operand.func 8),args:=#[Operand.tmp 22],argTypes:=#[23] },type:=27,pos:= "law.go:94",after:=#[⟨0,.data⟩],guard:=none },{ dst:=some 24,op:=Op.load 23 (Operand.tmp 5),type:=23,pos:= "law.go:94",after:=#[],guard:=none },{ dst:=some 25,op:=Op.call { callee:=Callee.value (Operand.func 8),args:=#[Operand.tmp 24],argTypes:=#[23] },type:=27,pos:= "law.go:94",after:=#[⟨2,.data⟩,⟨1,.chain⟩],guard:=none },{ dst:=some 9,op:=Op.alloc 27,type:=0,pos:= "law.go:94",after:=#[],guard:=none },{ dst:=some 10,op:=Op.alloc 27,type:=0,pos:= "law.go:94",after:=#[],guard:=none },{ dst:=none,op:=Op.store 27 (Operand.tmp 9) (Operand.tmp 23),type:=0,pos:= "law.go:94",after:=#[⟨4,.data⟩,⟨1,.data⟩,⟨3,.chain⟩,⟨0,.phase⟩,⟨1,.phase⟩,{ on:=2,ground:=Ground.textOnly Departure.lateStores },{ on:=3,ground:=Ground.textOnly Departure.lateStoresUnsure },⟨4,.phase⟩,⟨5,.phase⟩],guard:=none },{ dst:=none,op:=Op.store 27 (Operand.tmp 10) (Operand.tmp 25),type:=0,pos:= "law.go:94",after:=#[⟨5,.data⟩,⟨3,.data⟩,⟨6,.chain⟩,⟨0,.phase⟩,⟨1,.phase⟩,⟨2,.phase⟩,⟨3,.phase⟩,⟨4,.phase⟩,⟨5,.phase⟩,⟨6,.phase⟩],guard:=none }]
theorem says_regionA (id:Nat) (base:Act) (W0:World) (Q:Exit→Act→World→Prop) (ga gb:Nat) (a1 a2 b1 b2:Int) (fs gs:Bool) (fx fy gx gy:Int) (hs:25<base.tmps.size)
  (e4:base.eval (.tmp 4)=.pointer (some ⟨ga,0,none⟩)) (e5:base.eval (.tmp 5)=.pointer (some ⟨gb,0,none⟩)) (c40:W0.cell? ⟨ga,0,none⟩=some (.int .i64 a1)) (c41:W0.cell? ⟨ga,1,none⟩=some (.int .i64 a2)) (c50:W0.cell? ⟨gb,0,none⟩=some (.int .i64 b1)) (c51:W0.cell? ⟨gb,1,none⟩=some (.int .i64 b2))
  (hx:∀ w,Calls Tryz.prog 8 #[.agg #[.int .i64 a1,.int .i64 a2]] w fun e w'=>e=.returned (.agg #[.bool fs,.int .u64 fx,.int .u64 fy,.pointer none])∧But [] w w')
  (hy:∀ w,Calls Tryz.prog 8 #[.agg #[.int .i64 b1,.int .i64 b2]] w fun e w'=>e=.returned (.agg #[.bool gs,.int .u64 gx,.int .u64 gy,.pointer none])∧But [] w w')
  (hQ:∀ w b9 b10,But [] W0 w→W0.heap.size≤b9→W0.heap.size≤b10→P4 w b9 fs fx fy none→P4 w b10 gs gx gy none→Q .normal (putted base [(22,.agg #[.int .i64 a1,.int .i64 a2]),(23,.agg #[.bool fs,.int .u64 fx,.int .u64 fy,.pointer none]),(24,.agg #[.int .i64 b1,.int .i64 b2]),(25,.agg #[.bool gs,.int .u64 gx,.int .u64 gy,.pointer none]),(9,.pointer (some ⟨b9,0,none⟩)),(10,.pointer (some ⟨b10,0,none⟩))]) w) :
  (Code.region id saysA true).wp Tryz.prog Q base W0:=by
 have dd:∀ w,But [] W0.drew w→But [] W0 w:=fun w hb=>(But.refl [] W0).drew.trans' hb
 refine region_two (by kernel_rfl) (low_of (by kernel_rfl)) rfl (dep_of (by kernel_rfl)) 22 23 24 25 9 10 (by decide) (fun t ht=>by simp at ht;omega)
  (.agg #[.int .i64 a1,.int .i64 a2]) (.agg #[.int .i64 b1,.int .i64 b2]) (fun _ v=>v=.agg #[.bool fs,.int .u64 fx,.int .u64 fy,.pointer none]) (fun _ v=>v=.agg #[.bool gs,.int .u64 gx,.int .u64 gy,.pointer none])
  #[.bool false,.int .u64 0,.int .u64 0,.pointer none] #[.bool false,.int .u64 0,.int .u64 0,.pointer none] 27 27 (stays_eq _) (stays_eq _) ⟨false,rfl⟩ ⟨false,rfl⟩ ?_ ?_ ?_ ?_ ?_ ?_ ?_ ?_ ?_
 ·intro a w K hb he hK
  exact op_value rfl rfl (run_ldQ a w _ _ _ _ _ _ ga _ _ ((he 4 (by decide)).trans e4) ((dd w hb).cell_some c40 (by simp)) ((dd w hb).cell_some c41 (by simp))) (hK w (But.refl _ _))
 ·intro a w K hb ha hK
  refine op_enter (R:=fun w' v=>v=.agg #[.bool fs,.int .u64 fx,.int .u64 fy,.pointer none]∧But [] w w') rfl rfl (run_cF a w _ _ _ _ _ _ _ ha) ((hx w).mono (fun e w' h=>⟨_,h.1,rfl,h.2⟩)) ?_
  rintro v w' ⟨hv,hb'⟩
  exact hK v w' hb' hv
 ·intro a w K hb he hK
  exact op_value rfl rfl (run_ldQ a w _ _ _ _ _ _ gb _ _ ((he 5 (by decide)).trans e5) ((dd w hb).cell_some c50 (by simp)) ((dd w hb).cell_some c51 (by simp))) (hK w (But.refl _ _))
 ·intro a w K hb ha hK
  refine op_enter (R:=fun w' v=>v=.agg #[.bool gs,.int .u64 gx,.int .u64 gy,.pointer none]∧But [] w w') rfl rfl (run_cF a w _ _ _ _ _ _ _ ha) ((hy w).mono (fun e w' h=>⟨_,h.1,rfl,h.2⟩)) ?_
  rintro v w' ⟨hv,hb'⟩
  exact hK v w' hb' hv
 ·intro a w K hK
  exact op_value rfl rfl (run_alloc4 a w _ _ _ _) hK
 ·intro a w K hK
  exact op_value rfl rfl (run_alloc4 a w _ _ _ _) hK
 ·intro a w K b v h1 h2 hv hz hf hK
  subst hv
  exact op_skip rfl rfl (run_store4 a w _ _ _ _ _ b _ _ _ _ h1 h2 (void4 hz) hf) (hK _ (but4 _ _ _ _ _ _) (set4_full w b _ _ _ _ _ rfl hz) (fun j=>frz4 hf j))
 ·intro a w K b v h1 h2 hv hz hf hK
  subst hv
  exact op_skip rfl rfl (run_store4 a w _ _ _ _ _ b _ _ _ _ h1 h2 (void4 hz) hf) (hK _ (but4 _ _ _ _ _ _) (set4_full w b _ _ _ _ _ rfl hz) (fun j=>frz4 hf j))
 ·rintro w vx vy bx bY hb rfl rfl h1 h2 - - - h6 h7
  exact hQ w bx bY (dd w hb) h1 h2 h6.p4 h7.p4
def saysB0:Oper:={ dst:=some 26,op:=Op.load 23 (Operand.tmp 4),type:=23,pos:= "law.go:95",after:=#[],guard:=none }
def saysB1:Oper:={ dst:=some 27,op:=Op.call { callee:=Callee.value (Operand.func 9),args:=#[Operand.tmp 26],argTypes:=#[23] },type:=29,pos:= "law.go:95",after:=#[⟨0,.data⟩],guard:=none }
def saysB2:Oper:={ dst:=some 28,op:=Op.load 23 (Operand.tmp 5),type:=23,pos:= "law.go:95",after:=#[],guard:=none }
def saysB3:Oper:={ dst:=some 29,op:=Op.call { callee:=Callee.value (Operand.func 9),args:=#[Operand.tmp 28],argTypes:=#[23] },type:=29,pos:= "law.go:95",after:=#[⟨2,.data⟩,⟨1,.chain⟩],guard:=none }
def saysB4:Oper:={ dst:=some 11,op:=Op.assign (Operand.tmp 27),type:=29,pos:= "law.go:95",after:=#[⟨1,.data⟩,⟨3,.chain⟩,⟨0,.phase⟩,⟨1,.phase⟩,{ on:=2,ground:=Ground.textOnly Departure.lateStores },{ on:=3,ground:=Ground.textOnly Departure.lateStoresUnsure }],guard:=none }
def saysB5:Oper:={ dst:=some 12,op:=Op.assign (Operand.tmp 29),type:=29,pos:= "law.go:95",after:=#[⟨3,.data⟩,⟨4,.chain⟩,⟨0,.phase⟩,⟨1,.phase⟩,⟨2,.phase⟩,⟨3,.phase⟩,⟨4,.phase⟩],guard:=none }
def saysBs:Array Oper:=#[saysB0,saysB1,saysB2,saysB3,saysB4,saysB5]
def saysBT (i:Nat):Nat:=match i with
 | 0=>26
 | 1=>27
 | 2=>28
 | 3=>29
 | 4=>11
 | _=>12
def saysBC (a1:Int) (a2:Int) (b1:Int) (b2:Int) (f:Rat) (g:Rat) (i:Nat) (w:World) (v:Value):Prop:=match i with
 | 0=>v=.agg #[.int .i64 a1,.int .i64 a2]
 | 1=>RefV f w v
 | 2=>v=.agg #[.int .i64 b1,.int .i64 b2]
 | 3=>RefV g w v
 | 4=>RefV f w v
 | _=>RefV g w v
theorem saysBC_but {a1:Int} {a2:Int} {b1:Int} {b2:Int} {f:Rat} {g:Rat} {i:Nat} {w w':World} {v:Value} (h:saysBC a1 a2 b1 b2 f g i w v) (hi:i<6) (hb:But [] w w'):saysBC a1 a2 b1 b2 f g i w' v:=by
 have:i=0∨i=1∨i=2∨i=3∨i=4∨i=5:=by omega
 rcases this with rfl | rfl | rfl | rfl | rfl | rfl
 all_goals first | exact h | exact RefV.but h hb | exact DivV.but h hb | exact FracAt.but h hb
theorem saysBT_inj:∀ i j,i<6→j<6→saysBT i=saysBT j→i=j:=fun i j hi hj=>(by decide:∀ i,i<6→∀ j,j<6→saysBT i=saysBT j→i=j) i hi j hj
theorem says_regionB (id:Nat) (Q:Exit→Act→World→Prop) (base:Act) (W0:World) (a1:Int) (a2:Int) (b1:Int) (b2:Int) (f:Rat) (g:Rat) (hs:29<base.tmps.size) 
  (ga gb:Nat) (e4:base.eval (.tmp 4)=.pointer (some ⟨ga,0,none⟩)) (e5:base.eval (.tmp 5)=.pointer (some ⟨gb,0,none⟩)) (c40:W0.cell? ⟨ga,0,none⟩=some (.int .i64 a1)) (c41:W0.cell? ⟨ga,1,none⟩=some (.int .i64 a2)) (c50:W0.cell? ⟨gb,0,none⟩=some (.int .i64 b1)) (c51:W0.cell? ⟨gb,1,none⟩=some (.int .i64 b2))
  (hx:∀ W,Calls Tryz.prog 9 #[.agg #[.int .i64 a1,.int .i64 a2]] W fun e w'=>∃ zb,e=.returned (.pointer (some ⟨zb,0,none⟩))∧But [] W w'∧RatIs w' zb f∧W.heap.size≤zb)
  (hy:∀ W,Calls Tryz.prog 9 #[.agg #[.int .i64 b1,.int .i64 b2]] W fun e w'=>∃ zb,e=.returned (.pointer (some ⟨zb,0,none⟩))∧But [] W w'∧RatIs w' zb g∧W.heap.size≤zb)
  (hQ:∀ w (v1:Value) (v3:Value) (v4:Value) (v5:Value),But [] W0 w→(RefV f w v4)→(RefV g w v5)→Q .normal (putted base [(26,.agg #[.int .i64 a1,.int .i64 a2]),(27,v1),(28,.agg #[.int .i64 b1,.int .i64 b2]),(29,v3),(11,v4),(12,v5)]) w) :
  (Code.region id saysBs true).wp Tryz.prog Q base W0:=by
 have hdr:∀ {w},But [] W0.drew w→But [] W0 w:=fun h=>(But.refl _ _).drew.trans' h
 have hT:∀ i,i<6→saysBT i<base.tmps.size:=fun i hi=>by
  have h:saysBT i≤29:=by revert i;decide
  omega
 refine region_go (by kernel_rfl) (low_of (by kernel_rfl)) (saysBC a1 a2 b1 b2 f g) saysBT (by kernel_rfl) ?_ saysBT_inj hT (fun i w w' v hi h hb=>saysBC_but h hi hb) ?_ ?_
 ·intro i o j want ho hg w v hv
  have hi:i<6:=(Array.getElem?_eq_some_iff.1 ho).1
  have:i=0∨i=1∨i=2∨i=3∨i=4∨i=5:=by omega
  rcases this with rfl | rfl | rfl | rfl | rfl | rfl
  ·obtain rfl:=Option.some.inj ((show saysBs[0]? = some saysB0 from rfl).symm.trans ho)
   exact absurd (show (none:Option (Nat × Bool))=some (j,want) from hg) (by simp)
  ·obtain rfl:=Option.some.inj ((show saysBs[1]? = some saysB1 from rfl).symm.trans ho)
   exact absurd (show (none:Option (Nat × Bool))=some (j,want) from hg) (by simp)
  ·obtain rfl:=Option.some.inj ((show saysBs[2]? = some saysB2 from rfl).symm.trans ho)
   exact absurd (show (none:Option (Nat × Bool))=some (j,want) from hg) (by simp)
  ·obtain rfl:=Option.some.inj ((show saysBs[3]? = some saysB3 from rfl).symm.trans ho)
   exact absurd (show (none:Option (Nat × Bool))=some (j,want) from hg) (by simp)
  ·obtain rfl:=Option.some.inj ((show saysBs[4]? = some saysB4 from rfl).symm.trans ho)
   exact absurd (show (none:Option (Nat × Bool))=some (j,want) from hg) (by simp)
  ·obtain rfl:=Option.some.inj ((show saysBs[5]? = some saysB5 from rfl).symm.trans ho)
   exact absurd (show (none:Option (Nat × Bool))=some (j,want) from hg) (by simp)
 ·intro i o a w K ho hH he hdep hk
  have hi:i<6:=(Array.getElem?_eq_some_iff.1 ho).1
  have hD:=dep_is (ps:=[(1,0),(3,1),(3,2),(4,0),(4,1),(4,3),(5,0),(5,1),(5,2),(5,3),(5,4)]) (by kernel_rfl) ho (fun j=>saysBC a1 a2 b1 b2 f g j w (a.eval (.tmp (saysBT j)))) hdep
  have e4':=(he 4 (fun j hj e=>absurd e.symm (by revert j;decide))).trans e4
  have e5':=(he 5 (fun j hj e=>absurd e.symm (by revert j;decide))).trans e5
  have:i=0∨i=1∨i=2∨i=3∨i=4∨i=5:=by omega
  rcases this with rfl | rfl | rfl | rfl | rfl | rfl
  ·obtain rfl:=Option.some.inj ((show saysBs[0]? = some saysB0 from rfl).symm.trans ho)
   exact wp_value (run_ldQ a w _ _ _ _ _ _ ga _ _ e4' ((hdr hH).cell_some c40 (by simp)) ((hdr hH).cell_some c41 (by simp))) (hk _ _ (But.refl _ _) rfl)
  ·obtain rfl:=Option.some.inj ((show saysBs[1]? = some saysB1 from rfl).symm.trans ho)
   exact wp_enter (run_cOf a w _ _ _ _ _ _ _ (hD 0 (by simp))) (R:=fun w' v=>RefV f w' v∧But [] w w') ((hx w).mono (fun e w' h=>by obtain ⟨zb,h1,h2,h3,-⟩:=h;exact ⟨_,h1,⟨zb,rfl,h3⟩,h2⟩)) (fun v w' h=>hk _ _ h.2 h.1)
  ·obtain rfl:=Option.some.inj ((show saysBs[2]? = some saysB2 from rfl).symm.trans ho)
   exact wp_value (run_ldQ a w _ _ _ _ _ _ gb _ _ e5' ((hdr hH).cell_some c50 (by simp)) ((hdr hH).cell_some c51 (by simp))) (hk _ _ (But.refl _ _) rfl)
  ·obtain rfl:=Option.some.inj ((show saysBs[3]? = some saysB3 from rfl).symm.trans ho)
   exact wp_enter (run_cOf a w _ _ _ _ _ _ _ (hD 2 (by simp))) (R:=fun w' v=>RefV g w' v∧But [] w w') ((hy w).mono (fun e w' h=>by obtain ⟨zb,h1,h2,h3,-⟩:=h;exact ⟨_,h1,⟨zb,rfl,h3⟩,h2⟩)) (fun v w' h=>hk _ _ h.2 h.1)
  ·obtain rfl:=Option.some.inj ((show saysBs[4]? = some saysB4 from rfl).symm.trans ho)
   exact wp_value (run_asS a w _ _ _ _ _ _ _ rfl) (hk _ _ (But.refl _ _) (hD 1 (by simp)))
  ·obtain rfl:=Option.some.inj ((show saysBs[5]? = some saysB5 from rfl).symm.trans ho)
   exact wp_value (run_asS a w _ _ _ _ _ _ _ rfl) (hk _ _ (But.refl _ _) (hD 3 (by simp)))
 ·intro a w h
  have ea:=h.puts hT (fun i=>match i with
   | 0=>.agg #[.int .i64 a1,.int .i64 a2]
   | 1=>a.eval (.tmp 27)
   | 2=>.agg #[.int .i64 b1,.int .i64 b2]
   | 3=>a.eval (.tmp 29)
   | 4=>a.eval (.tmp 11)
   | _=>a.eval (.tmp 12)) (fun i hi=>by
   have hi':i<6:=hi
   have hc:=h.has i hi rfl
   have:i=0∨i=1∨i=2∨i=3∨i=4∨i=5:=by omega
   rcases this with rfl | rfl | rfl | rfl | rfl | rfl
   all_goals first | exact hc | rfl)
  rw [ea]
  exact hQ w (a.eval (.tmp 27)) (a.eval (.tmp 29)) (a.eval (.tmp 11)) (a.eval (.tmp 12)) (hdr h.but) (h.has 4 (by decide) rfl) (h.has 5 (by decide) rfl)
def saysC0:Oper:={ dst:=some 39,op:=Op.load 27 (Operand.tmp 9),type:=27,pos:= "law.go:101",after:=#[],guard:=none }
def saysC1:Oper:={ dst:=some 40,op:=Op.call { callee:=Callee.value (Operand.func 12),args:=#[Operand.tmp 39],argTypes:=#[27] },type:=9,pos:= "law.go:101",after:=#[⟨0,.data⟩],guard:=none }
def saysC2:Oper:={ dst:=some 41,op:=Op.move (Operand.tmp 11),type:=29,pos:= "law.go:101",after:=#[],guard:=none }
def saysC3:Oper:={ dst:=some 42,op:=Op.call { callee:=Callee.value (Operand.func 13),args:=#[Operand.tmp 41],argTypes:=#[29] },type:=9,pos:= "law.go:101",after:=#[⟨2,.data⟩,⟨1,.chain⟩],guard:=none }
def saysC4:Oper:={ dst:=some 43,op:=Op.binOp BinOp.neq 9 (Operand.tmp 40) (Operand.tmp 42) 9,type:=4,pos:= "law.go:101",after:=#[⟨1,.data⟩,⟨3,.data⟩],guard:=none }
def saysC5:Oper:={ dst:=some 44,op:=Op.move (Operand.tmp 43),type:=4,pos:= "law.go:101",after:=#[⟨4,.data⟩,⟨3,.chain⟩],guard:=none }
def saysC6:Oper:={ dst:=some 45,op:=Op.load 27 (Operand.tmp 9),type:=27,pos:= "law.go:101",after:=#[⟨5,.guard⟩],guard:=some (5,false) }
def saysC7:Oper:={ dst:=some 46,op:=Op.load 27 (Operand.tmp 10),type:=27,pos:= "law.go:101",after:=#[⟨5,.guard⟩],guard:=some (5,false) }
def saysC8:Oper:={ dst:=some 47,op:=Op.call { callee:=Callee.value (Operand.func 14),args:=#[Operand.tmp 45,Operand.tmp 46],argTypes:=#[27,27] },type:=27,pos:= "law.go:101",after:=#[⟨6,.data⟩,⟨7,.data⟩,⟨5,.chain⟩,⟨5,.guard⟩],guard:=some (5,false) }
def saysC9:Oper:={ dst:=some 48,op:=Op.call { callee:=Callee.value (Operand.func 12),args:=#[Operand.tmp 47],argTypes:=#[27] },type:=9,pos:= "law.go:101",after:=#[⟨8,.data⟩,⟨8,.chain⟩,⟨5,.guard⟩],guard:=some (5,false) }
def saysC10:Oper:={ dst:=some 49,op:=Op.move (Operand.tmp 11),type:=29,pos:= "law.go:101",after:=#[⟨5,.guard⟩],guard:=some (5,false) }
def saysC11:Oper:={ dst:=some 50,op:=Op.move (Operand.tmp 12),type:=29,pos:= "law.go:101",after:=#[⟨5,.guard⟩],guard:=some (5,false) }
def saysC12:Oper:={ dst:=some 51,op:=Op.call { callee:=Callee.value (Operand.func 15),args:=#[Operand.tmp 49,Operand.tmp 50],argTypes:=#[29,29] },type:=29,pos:= "law.go:101",after:=#[⟨10,.data⟩,⟨11,.data⟩,⟨9,.chain⟩,⟨5,.guard⟩],guard:=some (5,false) }
def saysC13:Oper:={ dst:=some 52,op:=Op.call { callee:=Callee.value (Operand.func 13),args:=#[Operand.tmp 51],argTypes:=#[29] },type:=9,pos:= "law.go:101",after:=#[⟨12,.data⟩,⟨12,.chain⟩,⟨5,.guard⟩],guard:=some (5,false) }
def saysC14:Oper:={ dst:=some 53,op:=Op.binOp BinOp.neq 9 (Operand.tmp 48) (Operand.tmp 52) 9,type:=4,pos:= "law.go:101",after:=#[⟨9,.data⟩,⟨13,.data⟩,⟨5,.guard⟩],guard:=some (5,false) }
def saysC15:Oper:={ dst:=some 54,op:=Op.pick (Operand.tmp 44) (Operand.const (Value.bool true)) (Operand.tmp 53),type:=4,pos:= "law.go:101",after:=#[⟨5,.data⟩,⟨14,.data⟩],guard:=none }
def saysC16:Oper:={ dst:=some 55,op:=Op.move (Operand.tmp 54),type:=4,pos:= "law.go:101",after:=#[⟨15,.data⟩,⟨13,.chain⟩],guard:=none }
def saysC17:Oper:={ dst:=some 56,op:=Op.load 27 (Operand.tmp 9),type:=27,pos:= "law.go:101",after:=#[⟨16,.guard⟩],guard:=some (16,false) }
def saysC18:Oper:={ dst:=some 57,op:=Op.load 27 (Operand.tmp 10),type:=27,pos:= "law.go:101",after:=#[⟨16,.guard⟩],guard:=some (16,false) }
def saysC19:Oper:={ dst:=some 58,op:=Op.call { callee:=Callee.value (Operand.func 16),args:=#[Operand.tmp 56,Operand.tmp 57],argTypes:=#[27,27] },type:=27,pos:= "law.go:101",after:=#[⟨17,.data⟩,⟨18,.data⟩,⟨16,.chain⟩,⟨16,.guard⟩],guard:=some (16,false) }
def saysC20:Oper:={ dst:=some 59,op:=Op.call { callee:=Callee.value (Operand.func 12),args:=#[Operand.tmp 58],argTypes:=#[27] },type:=9,pos:= "law.go:101",after:=#[⟨19,.data⟩,⟨19,.chain⟩,⟨16,.guard⟩],guard:=some (16,false) }
def saysC21:Oper:={ dst:=some 60,op:=Op.move (Operand.tmp 11),type:=29,pos:= "law.go:101",after:=#[⟨16,.guard⟩],guard:=some (16,false) }
def saysC22:Oper:={ dst:=some 61,op:=Op.move (Operand.tmp 12),type:=29,pos:= "law.go:101",after:=#[⟨16,.guard⟩],guard:=some (16,false) }
def saysC23:Oper:={ dst:=some 62,op:=Op.call { callee:=Callee.value (Operand.func 17),args:=#[Operand.tmp 60,Operand.tmp 61],argTypes:=#[29,29] },type:=29,pos:= "law.go:101",after:=#[⟨21,.data⟩,⟨22,.data⟩,⟨20,.chain⟩,⟨16,.guard⟩],guard:=some (16,false) }
def saysC24:Oper:={ dst:=some 63,op:=Op.call { callee:=Callee.value (Operand.func 13),args:=#[Operand.tmp 62],argTypes:=#[29] },type:=9,pos:= "law.go:101",after:=#[⟨23,.data⟩,⟨23,.chain⟩,⟨16,.guard⟩],guard:=some (16,false) }
def saysC25:Oper:={ dst:=some 64,op:=Op.binOp BinOp.neq 9 (Operand.tmp 59) (Operand.tmp 63) 9,type:=4,pos:= "law.go:101",after:=#[⟨20,.data⟩,⟨24,.data⟩,⟨16,.guard⟩],guard:=some (16,false) }
def saysC26:Oper:={ dst:=some 65,op:=Op.pick (Operand.tmp 55) (Operand.const (Value.bool true)) (Operand.tmp 64),type:=4,pos:= "law.go:101",after:=#[⟨16,.data⟩,⟨25,.data⟩],guard:=none }
def saysC27:Oper:={ dst:=some 66,op:=Op.move (Operand.tmp 65),type:=4,pos:= "law.go:101",after:=#[⟨26,.data⟩,⟨24,.chain⟩],guard:=none }
def saysC28:Oper:={ dst:=some 67,op:=Op.load 27 (Operand.tmp 9),type:=27,pos:= "law.go:101",after:=#[⟨27,.guard⟩],guard:=some (27,false) }
def saysC29:Oper:={ dst:=some 68,op:=Op.load 27 (Operand.tmp 10),type:=27,pos:= "law.go:101",after:=#[⟨27,.guard⟩],guard:=some (27,false) }
def saysC30:Oper:={ dst:=some 69,op:=Op.call { callee:=Callee.value (Operand.func 18),args:=#[Operand.tmp 67,Operand.tmp 68],argTypes:=#[27,27] },type:=27,pos:= "law.go:101",after:=#[⟨28,.data⟩,⟨29,.data⟩,⟨27,.chain⟩,⟨27,.guard⟩],guard:=some (27,false) }
def saysC31:Oper:={ dst:=some 70,op:=Op.call { callee:=Callee.value (Operand.func 12),args:=#[Operand.tmp 69],argTypes:=#[27] },type:=9,pos:= "law.go:101",after:=#[⟨30,.data⟩,⟨30,.chain⟩,⟨27,.guard⟩],guard:=some (27,false) }
def saysC32:Oper:={ dst:=some 71,op:=Op.move (Operand.tmp 11),type:=29,pos:= "law.go:101",after:=#[⟨27,.guard⟩],guard:=some (27,false) }
def saysC33:Oper:={ dst:=some 72,op:=Op.move (Operand.tmp 12),type:=29,pos:= "law.go:101",after:=#[⟨27,.guard⟩],guard:=some (27,false) }
def saysC34:Oper:={ dst:=some 73,op:=Op.call { callee:=Callee.value (Operand.func 19),args:=#[Operand.tmp 71,Operand.tmp 72],argTypes:=#[29,29] },type:=29,pos:= "law.go:101",after:=#[⟨32,.data⟩,⟨33,.data⟩,⟨31,.chain⟩,⟨27,.guard⟩],guard:=some (27,false) }
def saysC35:Oper:={ dst:=some 74,op:=Op.call { callee:=Callee.value (Operand.func 13),args:=#[Operand.tmp 73],argTypes:=#[29] },type:=9,pos:= "law.go:101",after:=#[⟨34,.data⟩,⟨34,.chain⟩,⟨27,.guard⟩],guard:=some (27,false) }
def saysC36:Oper:={ dst:=some 75,op:=Op.binOp BinOp.neq 9 (Operand.tmp 70) (Operand.tmp 74) 9,type:=4,pos:= "law.go:101",after:=#[⟨31,.data⟩,⟨35,.data⟩,⟨27,.guard⟩],guard:=some (27,false) }
def saysC37:Oper:={ dst:=some 76,op:=Op.pick (Operand.tmp 66) (Operand.const (Value.bool true)) (Operand.tmp 75),type:=4,pos:= "law.go:101",after:=#[⟨27,.data⟩,⟨36,.data⟩],guard:=none }
def saysC38:Oper:={ dst:=some 77,op:=Op.move (Operand.tmp 76),type:=4,pos:= "law.go:101",after:=#[⟨37,.data⟩,⟨35,.chain⟩],guard:=none }
def saysC39:Oper:={ dst:=some 78,op:=Op.load 27 (Operand.tmp 13),type:=27,pos:= "law.go:101",after:=#[⟨38,.guard⟩],guard:=some (38,false) }
def saysC40:Oper:={ dst:=some 79,op:=Op.move (Operand.tmp 14),type:=32,pos:= "law.go:101",after:=#[⟨38,.guard⟩],guard:=some (38,false) }
def saysC41:Oper:={ dst:=some 80,op:=Op.move (Operand.tmp 11),type:=29,pos:= "law.go:101",after:=#[⟨38,.guard⟩],guard:=some (38,false) }
def saysC42:Oper:={ dst:=some 81,op:=Op.move (Operand.tmp 12),type:=29,pos:= "law.go:101",after:=#[⟨38,.guard⟩],guard:=some (38,false) }
def saysC43:Oper:={ dst:=some 82,op:=Op.call { callee:=Callee.value (Operand.func 21),args:=#[Operand.tmp 80,Operand.tmp 81],argTypes:=#[29,29] },type:=29,pos:= "law.go:101",after:=#[⟨41,.data⟩,⟨42,.data⟩,⟨38,.chain⟩,⟨38,.guard⟩],guard:=some (38,false) }
def saysC44:Oper:={ dst:=some 83,op:=Op.move (Operand.tmp 15),type:=35,pos:= "law.go:101",after:=#[⟨38,.guard⟩],guard:=some (38,false) }
def saysC45:Oper:={ dst:=some 84,op:=Op.call { callee:=Callee.value (Operand.func 20),args:=#[Operand.tmp 78,Operand.tmp 79,Operand.tmp 82,Operand.tmp 83],argTypes:=#[27,32,29,35] },type:=4,pos:= "law.go:101",after:=#[⟨39,.data⟩,⟨40,.data⟩,⟨43,.data⟩,⟨44,.data⟩,⟨43,.chain⟩,⟨38,.guard⟩],guard:=some (38,false) }
def saysC46:Oper:={ dst:=some 85,op:=Op.unOp UnOp.not 4 (Operand.tmp 84),type:=4,pos:= "law.go:101",after:=#[⟨45,.data⟩,⟨38,.guard⟩],guard:=some (38,false) }
def saysC47:Oper:={ dst:=some 86,op:=Op.pick (Operand.tmp 77) (Operand.const (Value.bool true)) (Operand.tmp 85),type:=4,pos:= "law.go:101",after:=#[⟨38,.data⟩,⟨46,.data⟩],guard:=none }
def saysCs:Array Oper:=#[saysC0,saysC1,saysC2,saysC3,saysC4,saysC5,saysC6,saysC7,saysC8,saysC9,saysC10,saysC11,saysC12,saysC13,saysC14,saysC15,saysC16,saysC17,saysC18,saysC19,saysC20,saysC21,saysC22,saysC23,saysC24,saysC25,saysC26,saysC27,saysC28,saysC29,saysC30,saysC31,saysC32,saysC33,saysC34,saysC35,saysC36,saysC37,saysC38,saysC39,saysC40,saysC41,saysC42,saysC43,saysC44,saysC45,saysC46,saysC47]
def saysCT (i:Nat):Nat:=match i with
 | 0=>39
 | 1=>40
 | 2=>41
 | 3=>42
 | 4=>43
 | 5=>44
 | 6=>45
 | 7=>46
 | 8=>47
 | 9=>48
 | 10=>49
 | 11=>50
 | 12=>51
 | 13=>52
 | 14=>53
 | 15=>54
 | 16=>55
 | 17=>56
 | 18=>57
 | 19=>58
 | 20=>59
 | 21=>60
 | 22=>61
 | 23=>62
 | 24=>63
 | 25=>64
 | 26=>65
 | 27=>66
 | 28=>67
 | 29=>68
 | 30=>69
 | 31=>70
 | 32=>71
 | 33=>72
 | 34=>73
 | 35=>74
 | 36=>75
 | 37=>76
 | 38=>77
 | 39=>78
 | 40=>79
 | 41=>80
 | 42=>81
 | 43=>82
 | 44=>83
 | 45=>84
 | 46=>85
 | _=>86
def saysCC (fs:Bool) (fx:Int) (fy:Int) (gs:Bool) (gx:Int) (gy:Int) (xb:Nat) (yb:Nat) (tf:ByteArray) (ta:ByteArray) (ts:ByteArray) (tm:ByteArray) (f:Rat) (g:Rat) (qv:Value) (ev:Value) (ee:Int) (i:Nat) (w:World) (v:Value):Prop:=match i with
 | 0=>v=.agg #[.bool fs,.int .u64 fx,.int .u64 fy,.pointer none]
 | 1=>v=.string tf
 | 2=>v=.pointer (some ⟨xb,0,none⟩)
 | 3=>v=.string tf
 | 4=>v=.bool false
 | 5=>v=.bool false
 | 6=>v=.agg #[.bool fs,.int .u64 fx,.int .u64 fy,.pointer none]
 | 7=>v=.agg #[.bool gs,.int .u64 gx,.int .u64 gy,.pointer none]
 | 8=>FracAt w v (f+g)
 | 9=>v=.string ta
 | 10=>v=.pointer (some ⟨xb,0,none⟩)
 | 11=>v=.pointer (some ⟨yb,0,none⟩)
 | 12=>RefV (f+g) w v
 | 13=>v=.string ta
 | 14=>v=.bool false
 | 15=>v=.bool false
 | 16=>v=.bool false
 | 17=>v=.agg #[.bool fs,.int .u64 fx,.int .u64 fy,.pointer none]
 | 18=>v=.agg #[.bool gs,.int .u64 gx,.int .u64 gy,.pointer none]
 | 19=>FracAt w v (f-g)
 | 20=>v=.string ts
 | 21=>v=.pointer (some ⟨xb,0,none⟩)
 | 22=>v=.pointer (some ⟨yb,0,none⟩)
 | 23=>RefV (f-g) w v
 | 24=>v=.string ts
 | 25=>v=.bool false
 | 26=>v=.bool false
 | 27=>v=.bool false
 | 28=>v=.agg #[.bool fs,.int .u64 fx,.int .u64 fy,.pointer none]
 | 29=>v=.agg #[.bool gs,.int .u64 gx,.int .u64 gy,.pointer none]
 | 30=>FracAt w v (f*g)
 | 31=>v=.string tm
 | 32=>v=.pointer (some ⟨xb,0,none⟩)
 | 33=>v=.pointer (some ⟨yb,0,none⟩)
 | 34=>RefV (f*g) w v
 | 35=>v=.string tm
 | 36=>v=.bool false
 | 37=>v=.bool false
 | 38=>v=.bool false
 | 39=>v=qv
 | 40=>v=ev
 | 41=>v=.pointer (some ⟨xb,0,none⟩)
 | 42=>v=.pointer (some ⟨yb,0,none⟩)
 | 43=>DivV f g w v
 | 44=>v=.int .i64 ee
 | 45=>v=.bool true
 | 46=>v=.bool false
 | _=>v=.bool false
theorem saysCC_but {fs:Bool} {fx:Int} {fy:Int} {gs:Bool} {gx:Int} {gy:Int} {xb:Nat} {yb:Nat} {tf:ByteArray} {ta:ByteArray} {ts:ByteArray} {tm:ByteArray} {f:Rat} {g:Rat} {qv:Value} {ev:Value} {ee:Int} {i:Nat} {w w':World} {v:Value} (h:saysCC fs fx fy gs gx gy xb yb tf ta ts tm f g qv ev ee i w v) (hi:i<48) (hb:But [] w w'):saysCC fs fx fy gs gx gy xb yb tf ta ts tm f g qv ev ee i w' v:=by
 have:i=0∨i=1∨i=2∨i=3∨i=4∨i=5∨i=6∨i=7∨i=8∨i=9∨i=10∨i=11∨i=12∨i=13∨i=14∨i=15∨i=16∨i=17∨i=18∨i=19∨i=20∨i=21∨i=22∨i=23∨i=24∨i=25∨i=26∨i=27∨i=28∨i=29∨i=30∨i=31∨i=32∨i=33∨i=34∨i=35∨i=36∨i=37∨i=38∨i=39∨i=40∨i=41∨i=42∨i=43∨i=44∨i=45∨i=46∨i=47:=by omega
 rcases this with rfl | rfl | rfl | rfl | rfl | rfl | rfl | rfl | rfl | rfl | rfl | rfl | rfl | rfl | rfl | rfl | rfl | rfl | rfl | rfl | rfl | rfl | rfl | rfl | rfl | rfl | rfl | rfl | rfl | rfl | rfl | rfl | rfl | rfl | rfl | rfl | rfl | rfl | rfl | rfl | rfl | rfl | rfl | rfl | rfl | rfl | rfl | rfl
 all_goals first | exact h | exact RefV.but h hb | exact DivV.but h hb | exact FracAt.but h hb
theorem saysCT_inj:∀ i j,i<48→j<48→saysCT i=saysCT j→i=j:=fun i j hi hj=>(by decide:∀ i,i<48→∀ j,j<48→saysCT i=saysCT j→i=j) i hi j hj
theorem says_regionC (id:Nat) (Q:Exit→Act→World→Prop) (base:Act) (W0:World) (fs:Bool) (fx:Int) (fy:Int) (gs:Bool) (gx:Int) (gy:Int) (xb:Nat) (yb:Nat) (tf:ByteArray) (ta:ByteArray) (ts:ByteArray) (tm:ByteArray) (f:Rat) (g:Rat) (qv:Value) (ev:Value) (ee:Int) (hs:86<base.tmps.size) 
  (g9 g10 g13:Nat) (qs:Bool) (qx qy:Int) (qp:Option Addr) (hqv:qv=.agg #[.bool qs,.int .u64 qx,.int .u64 qy,.pointer qp]) (c9:P4 W0 g9 fs fx fy none) (c10:P4 W0 g10 gs gx gy none) (c13:P4 W0 g13 qs qx qy qp)
  (e9:base.eval (.tmp 9)=.pointer (some ⟨g9,0,none⟩)) (e10:base.eval (.tmp 10)=.pointer (some ⟨g10,0,none⟩)) (e11:base.eval (.tmp 11)=.pointer (some ⟨xb,0,none⟩)) (e12:base.eval (.tmp 12)=.pointer (some ⟨yb,0,none⟩)) (e13:base.eval (.tmp 13)=.pointer (some ⟨g13,0,none⟩)) (e14:base.eval (.tmp 14)=ev) (e15:base.eval (.tmp 15)=.int .i64 ee)
  (TF:∀ W,But [] W0 W→Calls Tryz.prog 12 #[.agg #[.bool fs,.int .u64 fx,.int .u64 fy,.pointer none]] W fun e w'=>e=.returned (.string tf)∧But [] W w')
  (TX:∀ W,But [] W0 W→Calls Tryz.prog 13 #[.pointer (some ⟨xb,0,none⟩)] W fun e w'=>e=.returned (.string tf)∧But [] W w')
  (PAdd:∀ W,But [] W0 W→Calls Tryz.prog 14 #[.agg #[.bool fs,.int .u64 fx,.int .u64 fy,.pointer none],.agg #[.bool gs,.int .u64 gx,.int .u64 gy,.pointer none]] W fun e w'=>∃ v',e=.returned v'∧FracAt w' v' (f+g)∧But [] W w')
  (TAdd:∀ W v,But [] W0 W→FracAt W v (f+g)→Calls Tryz.prog 12 #[v] W fun e w'=>e=.returned (.string ta)∧But [] W w')
  (RAdd:∀ W,But [] W0 W→Calls Tryz.prog 15 #[.pointer (some ⟨xb,0,none⟩),.pointer (some ⟨yb,0,none⟩)] W fun e w'=>∃ zb,e=.returned (.pointer (some ⟨zb,0,none⟩))∧But [] W w'∧RatIs w' zb (f+g)∧W.heap.size≤zb)
  (SAdd:∀ W zb,RatIs W zb (f+g)→Calls Tryz.prog 13 #[.pointer (some ⟨zb,0,none⟩)] W fun e w'=>e=.returned (.string ta)∧But [] W w')
  (PSub:∀ W,But [] W0 W→Calls Tryz.prog 16 #[.agg #[.bool fs,.int .u64 fx,.int .u64 fy,.pointer none],.agg #[.bool gs,.int .u64 gx,.int .u64 gy,.pointer none]] W fun e w'=>∃ v',e=.returned v'∧FracAt w' v' (f-g)∧But [] W w')
  (TSub:∀ W v,But [] W0 W→FracAt W v (f-g)→Calls Tryz.prog 12 #[v] W fun e w'=>e=.returned (.string ts)∧But [] W w')
  (RSub:∀ W,But [] W0 W→Calls Tryz.prog 17 #[.pointer (some ⟨xb,0,none⟩),.pointer (some ⟨yb,0,none⟩)] W fun e w'=>∃ zb,e=.returned (.pointer (some ⟨zb,0,none⟩))∧But [] W w'∧RatIs w' zb (f-g)∧W.heap.size≤zb)
  (SSub:∀ W zb,RatIs W zb (f-g)→Calls Tryz.prog 13 #[.pointer (some ⟨zb,0,none⟩)] W fun e w'=>e=.returned (.string ts)∧But [] W w')
  (PMul:∀ W,But [] W0 W→Calls Tryz.prog 18 #[.agg #[.bool fs,.int .u64 fx,.int .u64 fy,.pointer none],.agg #[.bool gs,.int .u64 gx,.int .u64 gy,.pointer none]] W fun e w'=>∃ v',e=.returned v'∧FracAt w' v' (f*g)∧But [] W w')
  (TMul:∀ W v,But [] W0 W→FracAt W v (f*g)→Calls Tryz.prog 12 #[v] W fun e w'=>e=.returned (.string tm)∧But [] W w')
  (RMul:∀ W,But [] W0 W→Calls Tryz.prog 19 #[.pointer (some ⟨xb,0,none⟩),.pointer (some ⟨yb,0,none⟩)] W fun e w'=>∃ zb,e=.returned (.pointer (some ⟨zb,0,none⟩))∧But [] W w'∧RatIs w' zb (f*g)∧W.heap.size≤zb)
  (SMul:∀ W zb,RatIs W zb (f*g)→Calls Tryz.prog 13 #[.pointer (some ⟨zb,0,none⟩)] W fun e w'=>e=.returned (.string tm)∧But [] W w')
  (DV:∀ W,But [] W0 W→Calls Tryz.prog 21 #[.pointer (some ⟨xb,0,none⟩),.pointer (some ⟨yb,0,none⟩)] W fun e w'=>∃ v',e=.returned v'∧DivV f g w' v'∧But [] W w')
  (ON:∀ W v,But [] W0 W→DivV f g W v→Calls Tryz.prog 20 #[qv,ev,v,.int .i64 ee] W fun e w'=>e=.returned (.bool true)∧But [] W w')
  (hQ:∀ w (v8:Value) (v12:Value) (v19:Value) (v23:Value) (v30:Value) (v34:Value) (v43:Value),But [] W0 w→Q .normal (putted base [(39,.agg #[.bool fs,.int .u64 fx,.int .u64 fy,.pointer none]),(40,.string tf),(41,.pointer (some ⟨xb,0,none⟩)),(42,.string tf),(43,.bool false),(44,.bool false),(45,.agg #[.bool fs,.int .u64 fx,.int .u64 fy,.pointer none]),(46,.agg #[.bool gs,.int .u64 gx,.int .u64 gy,.pointer none]),(47,v8),(48,.string ta),(49,.pointer (some ⟨xb,0,none⟩)),(50,.pointer (some ⟨yb,0,none⟩)),(51,v12),(52,.string ta),(53,.bool false),(54,.bool false),(55,.bool false),(56,.agg #[.bool fs,.int .u64 fx,.int .u64 fy,.pointer none]),(57,.agg #[.bool gs,.int .u64 gx,.int .u64 gy,.pointer none]),(58,v19),(59,.string ts),(60,.pointer (some ⟨xb,0,none⟩)),(61,.pointer (some ⟨yb,0,none⟩)),(62,v23),(63,.string ts),(64,.bool false),(65,.bool false),(66,.bool false),(67,.agg #[.bool fs,.int .u64 fx,.int .u64 fy,.pointer none]),(68,.agg #[.bool gs,.int .u64 gx,.int .u64 gy,.pointer none]),(69,v30),(70,.string tm),(71,.pointer (some ⟨xb,0,none⟩)),(72,.pointer (some ⟨yb,0,none⟩)),(73,v34),(74,.string tm),(75,.bool false),(76,.bool false),(77,.bool false),(78,qv),(79,ev),(80,.pointer (some ⟨xb,0,none⟩)),(81,.pointer (some ⟨yb,0,none⟩)),(82,v43),(83,.int .i64 ee),(84,.bool true),(85,.bool false),(86,.bool false)]) w) :
  (Code.region id saysCs true).wp Tryz.prog Q base W0:=by
 have hdr:∀ {w},But [] W0.drew w→But [] W0 w:=fun h=>(But.refl _ _).drew.trans' h
 have hT:∀ i,i<48→saysCT i<base.tmps.size:=fun i hi=>by
  have h:saysCT i≤86:=by revert i;decide
  omega
 refine region_go (by kernel_rfl) (low_of (by kernel_rfl)) (saysCC fs fx fy gs gx gy xb yb tf ta ts tm f g qv ev ee) saysCT (by kernel_rfl) ?_ saysCT_inj hT (fun i w w' v hi h hb=>saysCC_but h hi hb) ?_ ?_
 ·intro i o j want ho hg w v hv
  have hi:i<48:=(Array.getElem?_eq_some_iff.1 ho).1
  have:i=0∨i=1∨i=2∨i=3∨i=4∨i=5∨i=6∨i=7∨i=8∨i=9∨i=10∨i=11∨i=12∨i=13∨i=14∨i=15∨i=16∨i=17∨i=18∨i=19∨i=20∨i=21∨i=22∨i=23∨i=24∨i=25∨i=26∨i=27∨i=28∨i=29∨i=30∨i=31∨i=32∨i=33∨i=34∨i=35∨i=36∨i=37∨i=38∨i=39∨i=40∨i=41∨i=42∨i=43∨i=44∨i=45∨i=46∨i=47:=by omega
  rcases this with rfl | rfl | rfl | rfl | rfl | rfl | rfl | rfl | rfl | rfl | rfl | rfl | rfl | rfl | rfl | rfl | rfl | rfl | rfl | rfl | rfl | rfl | rfl | rfl | rfl | rfl | rfl | rfl | rfl | rfl | rfl | rfl | rfl | rfl | rfl | rfl | rfl | rfl | rfl | rfl | rfl | rfl | rfl | rfl | rfl | rfl | rfl | rfl
  ·obtain rfl:=Option.some.inj ((show saysCs[0]? = some saysC0 from rfl).symm.trans ho)
   exact absurd (show (none:Option (Nat × Bool))=some (j,want) from hg) (by simp)
  ·obtain rfl:=Option.some.inj ((show saysCs[1]? = some saysC1 from rfl).symm.trans ho)
   exact absurd (show (none:Option (Nat × Bool))=some (j,want) from hg) (by simp)
  ·obtain rfl:=Option.some.inj ((show saysCs[2]? = some saysC2 from rfl).symm.trans ho)
   exact absurd (show (none:Option (Nat × Bool))=some (j,want) from hg) (by simp)
  ·obtain rfl:=Option.some.inj ((show saysCs[3]? = some saysC3 from rfl).symm.trans ho)
   exact absurd (show (none:Option (Nat × Bool))=some (j,want) from hg) (by simp)
  ·obtain rfl:=Option.some.inj ((show saysCs[4]? = some saysC4 from rfl).symm.trans ho)
   exact absurd (show (none:Option (Nat × Bool))=some (j,want) from hg) (by simp)
  ·obtain rfl:=Option.some.inj ((show saysCs[5]? = some saysC5 from rfl).symm.trans ho)
   exact absurd (show (none:Option (Nat × Bool))=some (j,want) from hg) (by simp)
  ·obtain rfl:=Option.some.inj ((show saysCs[6]? = some saysC6 from rfl).symm.trans ho)
   obtain ⟨rfl,rfl⟩:=Prod.mk.inj (Option.some.inj (show some (5,false)=some (j,want) from hg))
   exact hv
  ·obtain rfl:=Option.some.inj ((show saysCs[7]? = some saysC7 from rfl).symm.trans ho)
   obtain ⟨rfl,rfl⟩:=Prod.mk.inj (Option.some.inj (show some (5,false)=some (j,want) from hg))
   exact hv
  ·obtain rfl:=Option.some.inj ((show saysCs[8]? = some saysC8 from rfl).symm.trans ho)
   obtain ⟨rfl,rfl⟩:=Prod.mk.inj (Option.some.inj (show some (5,false)=some (j,want) from hg))
   exact hv
  ·obtain rfl:=Option.some.inj ((show saysCs[9]? = some saysC9 from rfl).symm.trans ho)
   obtain ⟨rfl,rfl⟩:=Prod.mk.inj (Option.some.inj (show some (5,false)=some (j,want) from hg))
   exact hv
  ·obtain rfl:=Option.some.inj ((show saysCs[10]? = some saysC10 from rfl).symm.trans ho)
   obtain ⟨rfl,rfl⟩:=Prod.mk.inj (Option.some.inj (show some (5,false)=some (j,want) from hg))
   exact hv
  ·obtain rfl:=Option.some.inj ((show saysCs[11]? = some saysC11 from rfl).symm.trans ho)
   obtain ⟨rfl,rfl⟩:=Prod.mk.inj (Option.some.inj (show some (5,false)=some (j,want) from hg))
   exact hv
  ·obtain rfl:=Option.some.inj ((show saysCs[12]? = some saysC12 from rfl).symm.trans ho)
   obtain ⟨rfl,rfl⟩:=Prod.mk.inj (Option.some.inj (show some (5,false)=some (j,want) from hg))
   exact hv
  ·obtain rfl:=Option.some.inj ((show saysCs[13]? = some saysC13 from rfl).symm.trans ho)
   obtain ⟨rfl,rfl⟩:=Prod.mk.inj (Option.some.inj (show some (5,false)=some (j,want) from hg))
   exact hv
  ·obtain rfl:=Option.some.inj ((show saysCs[14]? = some saysC14 from rfl).symm.trans ho)
   obtain ⟨rfl,rfl⟩:=Prod.mk.inj (Option.some.inj (show some (5,false)=some (j,want) from hg))
   exact hv
  ·obtain rfl:=Option.some.inj ((show saysCs[15]? = some saysC15 from rfl).symm.trans ho)
   exact absurd (show (none:Option (Nat × Bool))=some (j,want) from hg) (by simp)
  ·obtain rfl:=Option.some.inj ((show saysCs[16]? = some saysC16 from rfl).symm.trans ho)
   exact absurd (show (none:Option (Nat × Bool))=some (j,want) from hg) (by simp)
  ·obtain rfl:=Option.some.inj ((show saysCs[17]? = some saysC17 from rfl).symm.trans ho)
   obtain ⟨rfl,rfl⟩:=Prod.mk.inj (Option.some.inj (show some (16,false)=some (j,want) from hg))
   exact hv
  ·obtain rfl:=Option.some.inj ((show saysCs[18]? = some saysC18 from rfl).symm.trans ho)
   obtain ⟨rfl,rfl⟩:=Prod.mk.inj (Option.some.inj (show some (16,false)=some (j,want) from hg))
   exact hv
  ·obtain rfl:=Option.some.inj ((show saysCs[19]? = some saysC19 from rfl).symm.trans ho)
   obtain ⟨rfl,rfl⟩:=Prod.mk.inj (Option.some.inj (show some (16,false)=some (j,want) from hg))
   exact hv
  ·obtain rfl:=Option.some.inj ((show saysCs[20]? = some saysC20 from rfl).symm.trans ho)
   obtain ⟨rfl,rfl⟩:=Prod.mk.inj (Option.some.inj (show some (16,false)=some (j,want) from hg))
   exact hv
  ·obtain rfl:=Option.some.inj ((show saysCs[21]? = some saysC21 from rfl).symm.trans ho)
   obtain ⟨rfl,rfl⟩:=Prod.mk.inj (Option.some.inj (show some (16,false)=some (j,want) from hg))
   exact hv
  ·obtain rfl:=Option.some.inj ((show saysCs[22]? = some saysC22 from rfl).symm.trans ho)
   obtain ⟨rfl,rfl⟩:=Prod.mk.inj (Option.some.inj (show some (16,false)=some (j,want) from hg))
   exact hv
  ·obtain rfl:=Option.some.inj ((show saysCs[23]? = some saysC23 from rfl).symm.trans ho)
   obtain ⟨rfl,rfl⟩:=Prod.mk.inj (Option.some.inj (show some (16,false)=some (j,want) from hg))
   exact hv
  ·obtain rfl:=Option.some.inj ((show saysCs[24]? = some saysC24 from rfl).symm.trans ho)
   obtain ⟨rfl,rfl⟩:=Prod.mk.inj (Option.some.inj (show some (16,false)=some (j,want) from hg))
   exact hv
  ·obtain rfl:=Option.some.inj ((show saysCs[25]? = some saysC25 from rfl).symm.trans ho)
   obtain ⟨rfl,rfl⟩:=Prod.mk.inj (Option.some.inj (show some (16,false)=some (j,want) from hg))
   exact hv
  ·obtain rfl:=Option.some.inj ((show saysCs[26]? = some saysC26 from rfl).symm.trans ho)
   exact absurd (show (none:Option (Nat × Bool))=some (j,want) from hg) (by simp)
  ·obtain rfl:=Option.some.inj ((show saysCs[27]? = some saysC27 from rfl).symm.trans ho)
   exact absurd (show (none:Option (Nat × Bool))=some (j,want) from hg) (by simp)
  ·obtain rfl:=Option.some.inj ((show saysCs[28]? = some saysC28 from rfl).symm.trans ho)
   obtain ⟨rfl,rfl⟩:=Prod.mk.inj (Option.some.inj (show some (27,false)=some (j,want) from hg))
   exact hv
  ·obtain rfl:=Option.some.inj ((show saysCs[29]? = some saysC29 from rfl).symm.trans ho)
   obtain ⟨rfl,rfl⟩:=Prod.mk.inj (Option.some.inj (show some (27,false)=some (j,want) from hg))
   exact hv
  ·obtain rfl:=Option.some.inj ((show saysCs[30]? = some saysC30 from rfl).symm.trans ho)
   obtain ⟨rfl,rfl⟩:=Prod.mk.inj (Option.some.inj (show some (27,false)=some (j,want) from hg))
   exact hv
  ·obtain rfl:=Option.some.inj ((show saysCs[31]? = some saysC31 from rfl).symm.trans ho)
   obtain ⟨rfl,rfl⟩:=Prod.mk.inj (Option.some.inj (show some (27,false)=some (j,want) from hg))
   exact hv
  ·obtain rfl:=Option.some.inj ((show saysCs[32]? = some saysC32 from rfl).symm.trans ho)
   obtain ⟨rfl,rfl⟩:=Prod.mk.inj (Option.some.inj (show some (27,false)=some (j,want) from hg))
   exact hv
  ·obtain rfl:=Option.some.inj ((show saysCs[33]? = some saysC33 from rfl).symm.trans ho)
   obtain ⟨rfl,rfl⟩:=Prod.mk.inj (Option.some.inj (show some (27,false)=some (j,want) from hg))
   exact hv
  ·obtain rfl:=Option.some.inj ((show saysCs[34]? = some saysC34 from rfl).symm.trans ho)
   obtain ⟨rfl,rfl⟩:=Prod.mk.inj (Option.some.inj (show some (27,false)=some (j,want) from hg))
   exact hv
  ·obtain rfl:=Option.some.inj ((show saysCs[35]? = some saysC35 from rfl).symm.trans ho)
   obtain ⟨rfl,rfl⟩:=Prod.mk.inj (Option.some.inj (show some (27,false)=some (j,want) from hg))
   exact hv
  ·obtain rfl:=Option.some.inj ((show saysCs[36]? = some saysC36 from rfl).symm.trans ho)
   obtain ⟨rfl,rfl⟩:=Prod.mk.inj (Option.some.inj (show some (27,false)=some (j,want) from hg))
   exact hv
  ·obtain rfl:=Option.some.inj ((show saysCs[37]? = some saysC37 from rfl).symm.trans ho)
   exact absurd (show (none:Option (Nat × Bool))=some (j,want) from hg) (by simp)
  ·obtain rfl:=Option.some.inj ((show saysCs[38]? = some saysC38 from rfl).symm.trans ho)
   exact absurd (show (none:Option (Nat × Bool))=some (j,want) from hg) (by simp)
  ·obtain rfl:=Option.some.inj ((show saysCs[39]? = some saysC39 from rfl).symm.trans ho)
   obtain ⟨rfl,rfl⟩:=Prod.mk.inj (Option.some.inj (show some (38,false)=some (j,want) from hg))
   exact hv
  ·obtain rfl:=Option.some.inj ((show saysCs[40]? = some saysC40 from rfl).symm.trans ho)
   obtain ⟨rfl,rfl⟩:=Prod.mk.inj (Option.some.inj (show some (38,false)=some (j,want) from hg))
   exact hv
  ·obtain rfl:=Option.some.inj ((show saysCs[41]? = some saysC41 from rfl).symm.trans ho)
   obtain ⟨rfl,rfl⟩:=Prod.mk.inj (Option.some.inj (show some (38,false)=some (j,want) from hg))
   exact hv
  ·obtain rfl:=Option.some.inj ((show saysCs[42]? = some saysC42 from rfl).symm.trans ho)
   obtain ⟨rfl,rfl⟩:=Prod.mk.inj (Option.some.inj (show some (38,false)=some (j,want) from hg))
   exact hv
  ·obtain rfl:=Option.some.inj ((show saysCs[43]? = some saysC43 from rfl).symm.trans ho)
   obtain ⟨rfl,rfl⟩:=Prod.mk.inj (Option.some.inj (show some (38,false)=some (j,want) from hg))
   exact hv
  ·obtain rfl:=Option.some.inj ((show saysCs[44]? = some saysC44 from rfl).symm.trans ho)
   obtain ⟨rfl,rfl⟩:=Prod.mk.inj (Option.some.inj (show some (38,false)=some (j,want) from hg))
   exact hv
  ·obtain rfl:=Option.some.inj ((show saysCs[45]? = some saysC45 from rfl).symm.trans ho)
   obtain ⟨rfl,rfl⟩:=Prod.mk.inj (Option.some.inj (show some (38,false)=some (j,want) from hg))
   exact hv
  ·obtain rfl:=Option.some.inj ((show saysCs[46]? = some saysC46 from rfl).symm.trans ho)
   obtain ⟨rfl,rfl⟩:=Prod.mk.inj (Option.some.inj (show some (38,false)=some (j,want) from hg))
   exact hv
  ·obtain rfl:=Option.some.inj ((show saysCs[47]? = some saysC47 from rfl).symm.trans ho)
   exact absurd (show (none:Option (Nat × Bool))=some (j,want) from hg) (by simp)
 ·intro i o a w K ho hH he hdep hk
  have hi:i<48:=(Array.getElem?_eq_some_iff.1 ho).1
  have hD:=dep_is (ps:=[(1,0),(3,1),(3,2),(4,1),(4,3),(5,3),(5,4),(6,5),(7,5),(8,5),(8,6),(8,7),(9,5),(9,8),(10,5),(11,5),(12,5),(12,9),(12,10),(12,11),(13,5),(13,12),(14,5),(14,9),(14,13),(15,5),(15,14),(16,13),(16,15),(17,16),(18,16),(19,16),(19,17),(19,18),(20,16),(20,19),(21,16),(22,16),(23,16),(23,20),(23,21),(23,22),(24,16),(24,23),(25,16),(25,20),(25,24),(26,16),(26,25),(27,24),(27,26),(28,27),(29,27),(30,27),(30,28),(30,29),(31,27),(31,30),(32,27),(33,27),(34,27),(34,31),(34,32),(34,33),(35,27),(35,34),(36,27),(36,31),(36,35),(37,27),(37,36),(38,35),(38,37),(39,38),(40,38),(41,38),(42,38),(43,38),(43,41),(43,42),(44,38),(45,38),(45,39),(45,40),(45,43),(45,44),(46,38),(46,45),(47,38),(47,46)]) (by kernel_rfl) ho (fun j=>saysCC fs fx fy gs gx gy xb yb tf ta ts tm f g qv ev ee j w (a.eval (.tmp (saysCT j)))) hdep
  have e9':=(he 9 (fun j hj e=>absurd e.symm (by revert j;decide))).trans e9
  have e10':=(he 10 (fun j hj e=>absurd e.symm (by revert j;decide))).trans e10
  have e11':=(he 11 (fun j hj e=>absurd e.symm (by revert j;decide))).trans e11
  have e12':=(he 12 (fun j hj e=>absurd e.symm (by revert j;decide))).trans e12
  have e13':=(he 13 (fun j hj e=>absurd e.symm (by revert j;decide))).trans e13
  have e14':=(he 14 (fun j hj e=>absurd e.symm (by revert j;decide))).trans e14
  have e15':=(he 15 (fun j hj e=>absurd e.symm (by revert j;decide))).trans e15
  have:i=0∨i=1∨i=2∨i=3∨i=4∨i=5∨i=6∨i=7∨i=8∨i=9∨i=10∨i=11∨i=12∨i=13∨i=14∨i=15∨i=16∨i=17∨i=18∨i=19∨i=20∨i=21∨i=22∨i=23∨i=24∨i=25∨i=26∨i=27∨i=28∨i=29∨i=30∨i=31∨i=32∨i=33∨i=34∨i=35∨i=36∨i=37∨i=38∨i=39∨i=40∨i=41∨i=42∨i=43∨i=44∨i=45∨i=46∨i=47:=by omega
  rcases this with rfl | rfl | rfl | rfl | rfl | rfl | rfl | rfl | rfl | rfl | rfl | rfl | rfl | rfl | rfl | rfl | rfl | rfl | rfl | rfl | rfl | rfl | rfl | rfl | rfl | rfl | rfl | rfl | rfl | rfl | rfl | rfl | rfl | rfl | rfl | rfl | rfl | rfl | rfl | rfl | rfl | rfl | rfl | rfl | rfl | rfl | rfl | rfl
  ·obtain rfl:=Option.some.inj ((show saysCs[0]? = some saysC0 from rfl).symm.trans ho)
   exact wp_value (run_ldF a w _ _ _ _ _ _ g9 _ _ _ _ e9' (c9.but (hdr hH) (by simp))) (hk _ _ (But.refl _ _) rfl)
  ·obtain rfl:=Option.some.inj ((show saysCs[1]? = some saysC1 from rfl).symm.trans ho)
   exact wp_enter (run_cText a w _ _ _ _ _ _ _ (hD 0 (by simp))) (R:=fun w' v=>v=.string tf∧But [] w w') ((TF w (hdr hH)).mono (fun e w' h=>⟨_,h.1,rfl,h.2⟩)) (fun v w' h=>hk _ _ h.2 h.1)
  ·obtain rfl:=Option.some.inj ((show saysCs[2]? = some saysC2 from rfl).symm.trans ho)
   exact wp_value (run_mvS a w _ _ _ _ _ _ _ e11') (hk _ _ (But.refl _ _) rfl)
  ·obtain rfl:=Option.some.inj ((show saysCs[3]? = some saysC3 from rfl).symm.trans ho)
   exact wp_enter (run_cRText a w _ _ _ _ _ _ _ (hD 2 (by simp))) (R:=fun w' v=>v=.string tf∧But [] w w') ((TX w (hdr hH)).mono (fun e w' h=>⟨_,h.1,rfl,h.2⟩)) (fun v w' h=>hk _ _ h.2 h.1)
  ·obtain rfl:=Option.some.inj ((show saysCs[4]? = some saysC4 from rfl).symm.trans ho)
   exact wp_value (run_neS a w _ _ _ _ _ _ _ _ (hD 1 (by simp)) (hD 3 (by simp))) (hk _ _ (But.refl _ _) rfl)
  ·obtain rfl:=Option.some.inj ((show saysCs[5]? = some saysC5 from rfl).symm.trans ho)
   exact wp_value (run_mvS a w _ _ _ _ _ _ _ (hD 4 (by simp))) (hk _ _ (But.refl _ _) rfl)
  ·obtain rfl:=Option.some.inj ((show saysCs[6]? = some saysC6 from rfl).symm.trans ho)
   exact wp_value (run_ldF a w _ _ _ _ _ _ g9 _ _ _ _ e9' (c9.but (hdr hH) (by simp))) (hk _ _ (But.refl _ _) rfl)
  ·obtain rfl:=Option.some.inj ((show saysCs[7]? = some saysC7 from rfl).symm.trans ho)
   exact wp_value (run_ldF a w _ _ _ _ _ _ g10 _ _ _ _ e10' (c10.but (hdr hH) (by simp))) (hk _ _ (But.refl _ _) rfl)
  ·obtain rfl:=Option.some.inj ((show saysCs[8]? = some saysC8 from rfl).symm.trans ho)
   exact wp_enter (run_cAdd a w _ _ _ _ _ _ _ _ _ (hD 6 (by simp)) (hD 7 (by simp))) (R:=fun w' v=>FracAt w' v (f+g)∧But [] w w') ((PAdd w (hdr hH)).mono (fun e w' h=>by obtain ⟨v',h1,h2,h3⟩:=h;exact ⟨_,h1,h2,h3⟩)) (fun v w' h=>hk _ _ h.2 h.1)
  ·obtain rfl:=Option.some.inj ((show saysCs[9]? = some saysC9 from rfl).symm.trans ho)
   exact wp_enter (run_cText a w _ _ _ _ _ _ _ rfl) (R:=fun w' v=>v=.string ta∧But [] w w') ((TAdd w _ (hdr hH) (hD 8 (by simp))).mono (fun e w' h=>⟨_,h.1,rfl,h.2⟩)) (fun v w' h=>hk _ _ h.2 h.1)
  ·obtain rfl:=Option.some.inj ((show saysCs[10]? = some saysC10 from rfl).symm.trans ho)
   exact wp_value (run_mvS a w _ _ _ _ _ _ _ e11') (hk _ _ (But.refl _ _) rfl)
  ·obtain rfl:=Option.some.inj ((show saysCs[11]? = some saysC11 from rfl).symm.trans ho)
   exact wp_value (run_mvS a w _ _ _ _ _ _ _ e12') (hk _ _ (But.refl _ _) rfl)
  ·obtain rfl:=Option.some.inj ((show saysCs[12]? = some saysC12 from rfl).symm.trans ho)
   exact wp_enter (run_cRAdd a w _ _ _ _ _ _ _ _ _ (hD 10 (by simp)) (hD 11 (by simp))) (R:=fun w' v=>RefV (f+g) w' v∧But [] w w') ((RAdd w (hdr hH)).mono (fun e w' h=>by obtain ⟨zb,h1,h2,h3,-⟩:=h;exact ⟨_,h1,⟨zb,rfl,h3⟩,h2⟩)) (fun v w' h=>hk _ _ h.2 h.1)
  ·obtain rfl:=Option.some.inj ((show saysCs[13]? = some saysC13 from rfl).symm.trans ho)
   obtain ⟨zb,eo,ho'⟩:=hD 12 (by simp)
   exact wp_enter (run_cRText a w _ _ _ _ _ _ _ eo) (R:=fun w' v=>v=.string ta∧But [] w w') ((SAdd w zb ho').mono (fun e w' h=>⟨_,h.1,rfl,h.2⟩)) (fun v w' h=>hk _ _ h.2 h.1)
  ·obtain rfl:=Option.some.inj ((show saysCs[14]? = some saysC14 from rfl).symm.trans ho)
   exact wp_value (run_neS a w _ _ _ _ _ _ _ _ (hD 9 (by simp)) (hD 13 (by simp))) (hk _ _ (But.refl _ _) rfl)
  ·obtain rfl:=Option.some.inj ((show saysCs[15]? = some saysC15 from rfl).symm.trans ho)
   exact wp_value (run_pkF a w _ _ _ _ _ _ _ (hD 5 (by simp)) (hD 14 (by simp))) (hk _ _ (But.refl _ _) rfl)
  ·obtain rfl:=Option.some.inj ((show saysCs[16]? = some saysC16 from rfl).symm.trans ho)
   exact wp_value (run_mvS a w _ _ _ _ _ _ _ (hD 15 (by simp))) (hk _ _ (But.refl _ _) rfl)
  ·obtain rfl:=Option.some.inj ((show saysCs[17]? = some saysC17 from rfl).symm.trans ho)
   exact wp_value (run_ldF a w _ _ _ _ _ _ g9 _ _ _ _ e9' (c9.but (hdr hH) (by simp))) (hk _ _ (But.refl _ _) rfl)
  ·obtain rfl:=Option.some.inj ((show saysCs[18]? = some saysC18 from rfl).symm.trans ho)
   exact wp_value (run_ldF a w _ _ _ _ _ _ g10 _ _ _ _ e10' (c10.but (hdr hH) (by simp))) (hk _ _ (But.refl _ _) rfl)
  ·obtain rfl:=Option.some.inj ((show saysCs[19]? = some saysC19 from rfl).symm.trans ho)
   exact wp_enter (run_cSub a w _ _ _ _ _ _ _ _ _ (hD 17 (by simp)) (hD 18 (by simp))) (R:=fun w' v=>FracAt w' v (f-g)∧But [] w w') ((PSub w (hdr hH)).mono (fun e w' h=>by obtain ⟨v',h1,h2,h3⟩:=h;exact ⟨_,h1,h2,h3⟩)) (fun v w' h=>hk _ _ h.2 h.1)
  ·obtain rfl:=Option.some.inj ((show saysCs[20]? = some saysC20 from rfl).symm.trans ho)
   exact wp_enter (run_cText a w _ _ _ _ _ _ _ rfl) (R:=fun w' v=>v=.string ts∧But [] w w') ((TSub w _ (hdr hH) (hD 19 (by simp))).mono (fun e w' h=>⟨_,h.1,rfl,h.2⟩)) (fun v w' h=>hk _ _ h.2 h.1)
  ·obtain rfl:=Option.some.inj ((show saysCs[21]? = some saysC21 from rfl).symm.trans ho)
   exact wp_value (run_mvS a w _ _ _ _ _ _ _ e11') (hk _ _ (But.refl _ _) rfl)
  ·obtain rfl:=Option.some.inj ((show saysCs[22]? = some saysC22 from rfl).symm.trans ho)
   exact wp_value (run_mvS a w _ _ _ _ _ _ _ e12') (hk _ _ (But.refl _ _) rfl)
  ·obtain rfl:=Option.some.inj ((show saysCs[23]? = some saysC23 from rfl).symm.trans ho)
   exact wp_enter (run_cRSub a w _ _ _ _ _ _ _ _ _ (hD 21 (by simp)) (hD 22 (by simp))) (R:=fun w' v=>RefV (f-g) w' v∧But [] w w') ((RSub w (hdr hH)).mono (fun e w' h=>by obtain ⟨zb,h1,h2,h3,-⟩:=h;exact ⟨_,h1,⟨zb,rfl,h3⟩,h2⟩)) (fun v w' h=>hk _ _ h.2 h.1)
  ·obtain rfl:=Option.some.inj ((show saysCs[24]? = some saysC24 from rfl).symm.trans ho)
   obtain ⟨zb,eo,ho'⟩:=hD 23 (by simp)
   exact wp_enter (run_cRText a w _ _ _ _ _ _ _ eo) (R:=fun w' v=>v=.string ts∧But [] w w') ((SSub w zb ho').mono (fun e w' h=>⟨_,h.1,rfl,h.2⟩)) (fun v w' h=>hk _ _ h.2 h.1)
  ·obtain rfl:=Option.some.inj ((show saysCs[25]? = some saysC25 from rfl).symm.trans ho)
   exact wp_value (run_neS a w _ _ _ _ _ _ _ _ (hD 20 (by simp)) (hD 24 (by simp))) (hk _ _ (But.refl _ _) rfl)
  ·obtain rfl:=Option.some.inj ((show saysCs[26]? = some saysC26 from rfl).symm.trans ho)
   exact wp_value (run_pkF a w _ _ _ _ _ _ _ (hD 16 (by simp)) (hD 25 (by simp))) (hk _ _ (But.refl _ _) rfl)
  ·obtain rfl:=Option.some.inj ((show saysCs[27]? = some saysC27 from rfl).symm.trans ho)
   exact wp_value (run_mvS a w _ _ _ _ _ _ _ (hD 26 (by simp))) (hk _ _ (But.refl _ _) rfl)
  ·obtain rfl:=Option.some.inj ((show saysCs[28]? = some saysC28 from rfl).symm.trans ho)
   exact wp_value (run_ldF a w _ _ _ _ _ _ g9 _ _ _ _ e9' (c9.but (hdr hH) (by simp))) (hk _ _ (But.refl _ _) rfl)
  ·obtain rfl:=Option.some.inj ((show saysCs[29]? = some saysC29 from rfl).symm.trans ho)
   exact wp_value (run_ldF a w _ _ _ _ _ _ g10 _ _ _ _ e10' (c10.but (hdr hH) (by simp))) (hk _ _ (But.refl _ _) rfl)
  ·obtain rfl:=Option.some.inj ((show saysCs[30]? = some saysC30 from rfl).symm.trans ho)
   exact wp_enter (run_cMul a w _ _ _ _ _ _ _ _ _ (hD 28 (by simp)) (hD 29 (by simp))) (R:=fun w' v=>FracAt w' v (f*g)∧But [] w w') ((PMul w (hdr hH)).mono (fun e w' h=>by obtain ⟨v',h1,h2,h3⟩:=h;exact ⟨_,h1,h2,h3⟩)) (fun v w' h=>hk _ _ h.2 h.1)
  ·obtain rfl:=Option.some.inj ((show saysCs[31]? = some saysC31 from rfl).symm.trans ho)
   exact wp_enter (run_cText a w _ _ _ _ _ _ _ rfl) (R:=fun w' v=>v=.string tm∧But [] w w') ((TMul w _ (hdr hH) (hD 30 (by simp))).mono (fun e w' h=>⟨_,h.1,rfl,h.2⟩)) (fun v w' h=>hk _ _ h.2 h.1)
  ·obtain rfl:=Option.some.inj ((show saysCs[32]? = some saysC32 from rfl).symm.trans ho)
   exact wp_value (run_mvS a w _ _ _ _ _ _ _ e11') (hk _ _ (But.refl _ _) rfl)
  ·obtain rfl:=Option.some.inj ((show saysCs[33]? = some saysC33 from rfl).symm.trans ho)
   exact wp_value (run_mvS a w _ _ _ _ _ _ _ e12') (hk _ _ (But.refl _ _) rfl)
  ·obtain rfl:=Option.some.inj ((show saysCs[34]? = some saysC34 from rfl).symm.trans ho)
   exact wp_enter (run_cRMul a w _ _ _ _ _ _ _ _ _ (hD 32 (by simp)) (hD 33 (by simp))) (R:=fun w' v=>RefV (f*g) w' v∧But [] w w') ((RMul w (hdr hH)).mono (fun e w' h=>by obtain ⟨zb,h1,h2,h3,-⟩:=h;exact ⟨_,h1,⟨zb,rfl,h3⟩,h2⟩)) (fun v w' h=>hk _ _ h.2 h.1)
  ·obtain rfl:=Option.some.inj ((show saysCs[35]? = some saysC35 from rfl).symm.trans ho)
   obtain ⟨zb,eo,ho'⟩:=hD 34 (by simp)
   exact wp_enter (run_cRText a w _ _ _ _ _ _ _ eo) (R:=fun w' v=>v=.string tm∧But [] w w') ((SMul w zb ho').mono (fun e w' h=>⟨_,h.1,rfl,h.2⟩)) (fun v w' h=>hk _ _ h.2 h.1)
  ·obtain rfl:=Option.some.inj ((show saysCs[36]? = some saysC36 from rfl).symm.trans ho)
   exact wp_value (run_neS a w _ _ _ _ _ _ _ _ (hD 31 (by simp)) (hD 35 (by simp))) (hk _ _ (But.refl _ _) rfl)
  ·obtain rfl:=Option.some.inj ((show saysCs[37]? = some saysC37 from rfl).symm.trans ho)
   exact wp_value (run_pkF a w _ _ _ _ _ _ _ (hD 27 (by simp)) (hD 36 (by simp))) (hk _ _ (But.refl _ _) rfl)
  ·obtain rfl:=Option.some.inj ((show saysCs[38]? = some saysC38 from rfl).symm.trans ho)
   exact wp_value (run_mvS a w _ _ _ _ _ _ _ (hD 37 (by simp))) (hk _ _ (But.refl _ _) rfl)
  ·obtain rfl:=Option.some.inj ((show saysCs[39]? = some saysC39 from rfl).symm.trans ho)
   subst hqv
   exact wp_value (run_ldF a w _ _ _ _ _ _ g13 _ _ _ _ e13' (c13.but (hdr hH) (by simp))) (hk _ _ (But.refl _ _) rfl)
  ·obtain rfl:=Option.some.inj ((show saysCs[40]? = some saysC40 from rfl).symm.trans ho)
   exact wp_value (run_mvS a w _ _ _ _ _ _ _ e14') (hk _ _ (But.refl _ _) rfl)
  ·obtain rfl:=Option.some.inj ((show saysCs[41]? = some saysC41 from rfl).symm.trans ho)
   exact wp_value (run_mvS a w _ _ _ _ _ _ _ e11') (hk _ _ (But.refl _ _) rfl)
  ·obtain rfl:=Option.some.inj ((show saysCs[42]? = some saysC42 from rfl).symm.trans ho)
   exact wp_value (run_mvS a w _ _ _ _ _ _ _ e12') (hk _ _ (But.refl _ _) rfl)
  ·obtain rfl:=Option.some.inj ((show saysCs[43]? = some saysC43 from rfl).symm.trans ho)
   exact wp_enter (run_cRDiv a w _ _ _ _ _ _ _ _ _ (hD 41 (by simp)) (hD 42 (by simp))) (R:=fun w' v=>DivV f g w' v∧But [] w w') ((DV w (hdr hH)).mono (fun e w' h=>by obtain ⟨v',h1,h2,h3⟩:=h;exact ⟨_,h1,h2,h3⟩)) (fun v w' h=>hk _ _ h.2 h.1)
  ·obtain rfl:=Option.some.inj ((show saysCs[44]? = some saysC44 from rfl).symm.trans ho)
   exact wp_value (run_mvS a w _ _ _ _ _ _ _ e15') (hk _ _ (But.refl _ _) rfl)
  ·obtain rfl:=Option.some.inj ((show saysCs[45]? = some saysC45 from rfl).symm.trans ho)
   exact wp_enter (run_cOne a w _ _ _ _ _ _ _ _ _ _ _ _ _ (hD 39 (by simp)) (hD 40 (by simp)) rfl (hD 44 (by simp))) (R:=fun w' v=>v=.bool true∧But [] w w') ((ON w _ (hdr hH) (hD 43 (by simp))).mono (fun e w' h=>⟨_,h.1,rfl,h.2⟩)) (fun v w' h=>hk _ _ h.2 h.1)
  ·obtain rfl:=Option.some.inj ((show saysCs[46]? = some saysC46 from rfl).symm.trans ho)
   exact wp_value (run_ntT a w _ _ _ _ _ _ (hD 45 (by simp))) (hk _ _ (But.refl _ _) rfl)
  ·obtain rfl:=Option.some.inj ((show saysCs[47]? = some saysC47 from rfl).symm.trans ho)
   exact wp_value (run_pkF a w _ _ _ _ _ _ _ (hD 38 (by simp)) (hD 46 (by simp))) (hk _ _ (But.refl _ _) rfl)
 ·intro a w h
  have ea:=h.puts hT (fun i=>match i with
   | 0=>.agg #[.bool fs,.int .u64 fx,.int .u64 fy,.pointer none]
   | 1=>.string tf
   | 2=>.pointer (some ⟨xb,0,none⟩)
   | 3=>.string tf
   | 4=>.bool false
   | 5=>.bool false
   | 6=>.agg #[.bool fs,.int .u64 fx,.int .u64 fy,.pointer none]
   | 7=>.agg #[.bool gs,.int .u64 gx,.int .u64 gy,.pointer none]
   | 8=>a.eval (.tmp 47)
   | 9=>.string ta
   | 10=>.pointer (some ⟨xb,0,none⟩)
   | 11=>.pointer (some ⟨yb,0,none⟩)
   | 12=>a.eval (.tmp 51)
   | 13=>.string ta
   | 14=>.bool false
   | 15=>.bool false
   | 16=>.bool false
   | 17=>.agg #[.bool fs,.int .u64 fx,.int .u64 fy,.pointer none]
   | 18=>.agg #[.bool gs,.int .u64 gx,.int .u64 gy,.pointer none]
   | 19=>a.eval (.tmp 58)
   | 20=>.string ts
   | 21=>.pointer (some ⟨xb,0,none⟩)
   | 22=>.pointer (some ⟨yb,0,none⟩)
   | 23=>a.eval (.tmp 62)
   | 24=>.string ts
   | 25=>.bool false
   | 26=>.bool false
   | 27=>.bool false
   | 28=>.agg #[.bool fs,.int .u64 fx,.int .u64 fy,.pointer none]
   | 29=>.agg #[.bool gs,.int .u64 gx,.int .u64 gy,.pointer none]
   | 30=>a.eval (.tmp 69)
   | 31=>.string tm
   | 32=>.pointer (some ⟨xb,0,none⟩)
   | 33=>.pointer (some ⟨yb,0,none⟩)
   | 34=>a.eval (.tmp 73)
   | 35=>.string tm
   | 36=>.bool false
   | 37=>.bool false
   | 38=>.bool false
   | 39=>qv
   | 40=>ev
   | 41=>.pointer (some ⟨xb,0,none⟩)
   | 42=>.pointer (some ⟨yb,0,none⟩)
   | 43=>a.eval (.tmp 82)
   | 44=>.int .i64 ee
   | 45=>.bool true
   | 46=>.bool false
   | _=>.bool false) (fun i hi=>by
   have hi':i<48:=hi
   have hc:=h.has i hi rfl
   have:i=0∨i=1∨i=2∨i=3∨i=4∨i=5∨i=6∨i=7∨i=8∨i=9∨i=10∨i=11∨i=12∨i=13∨i=14∨i=15∨i=16∨i=17∨i=18∨i=19∨i=20∨i=21∨i=22∨i=23∨i=24∨i=25∨i=26∨i=27∨i=28∨i=29∨i=30∨i=31∨i=32∨i=33∨i=34∨i=35∨i=36∨i=37∨i=38∨i=39∨i=40∨i=41∨i=42∨i=43∨i=44∨i=45∨i=46∨i=47:=by omega
   rcases this with rfl | rfl | rfl | rfl | rfl | rfl | rfl | rfl | rfl | rfl | rfl | rfl | rfl | rfl | rfl | rfl | rfl | rfl | rfl | rfl | rfl | rfl | rfl | rfl | rfl | rfl | rfl | rfl | rfl | rfl | rfl | rfl | rfl | rfl | rfl | rfl | rfl | rfl | rfl | rfl | rfl | rfl | rfl | rfl | rfl | rfl | rfl | rfl
   all_goals first | exact hc | rfl)
  rw [ea]
  exact hQ w (a.eval (.tmp 47)) (a.eval (.tmp 51)) (a.eval (.tmp 58)) (a.eval (.tmp 62)) (a.eval (.tmp 69)) (a.eval (.tmp 73)) (a.eval (.tmp 82)) (hdr h.but)
end Go.Proofs.YteipfplbcbaheaaGreatDoor
