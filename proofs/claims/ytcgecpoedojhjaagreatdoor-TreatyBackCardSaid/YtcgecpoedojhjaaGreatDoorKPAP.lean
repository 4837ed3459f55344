/- What a line bears, whatever its kind: as -/
import Derived.Test.YtcgecpoedojhjaaGreatDoorProg
import Derived.Deep.QuietTactic
import Derived.BigQuiet
import Derived.Outline
import Derived.Shelf.Spec.BitsCarry
import Derived.Test.YtcgecpoedojhjaaGreatDoorKPXO
namespace Go.Proofs.YtcgecpoedojhjaaGreatDoor
open Go.Proofs.Tryz
open Go.RowKit
set_option maxHeartbeats 8000000
set_option maxRecDepth 100000
theorem zjv (f:Rat) (n:Nat) (h0:0≤f) (h1:f≤1):∃ z:Nat,fl (f*((n:Int):Rat))=(z:Int)∧z≤n:=by
 have hn:(0:Rat)≤((n:Int):Rat):=by rw[show (0:Rat)=((0:Int):Rat) from rfl,Rat.intCast_le_intCast];omega
 generalize hg:f*((n:Int):Rat)=g
 have g0:0≤g:=by rw[← hg];exact Rat.mul_nonneg h0 hn
 have g1:g≤((n:Int):Rat):=by
  have:=Rat.mul_le_mul_of_nonneg_right h1 hn
  rw[Rat.one_mul,hg] at this
  exact this
 have a0:0≤g.num:=Rat.num_nonneg.2 g0
 have a1:g.num≤(n:Int)*(g.den:Int):=by
  have:=(Rat.le_iff _ _).1 g1
  simpa using this
 have hd:(0:Int)<(g.den:Int):=by have:=g.den_pos;omega
 have b0:0≤g.num/(g.den:Int):=Int.ediv_nonneg a0 (by omega)
 have b1:g.num/(g.den:Int)≤(n:Int):=Int.ediv_le_of_le_mul hd a1
 exact⟨(g.num/(g.den:Int)).toNat,by unfold fl;omega,by omega⟩
def brI (l:Ln) (sm lf bo:Int):Int:=if l.kd=1 then fl (l.f*((lf:Int):Rat)) else if l.kd=2 then fl (((tkI l.li l.ti sm:Int):Rat)/((sm:Int):Rat)*((lf:Int):Rat)) else if l.kd=3 then min (abI l.fr l.li lf) (l.li*(l.ti+1)-bo) else 0
theorem zkk (t:Rat) (li ti sm:Int) (h1:1≤sm) (h2:0≤li) (h3:0≤ti) (ht:t*((sm:Int):Rat)=((tkI li ti sm:Int):Rat)):t=((tkI li ti sm:Int):Rat)/((sm:Int):Rat)∧0≤t∧t≤1:=by
 have hs:(0:Rat)<((sm:Int):Rat):=by rw[show (0:Rat)=((0:Int):Rat) from rfl,Rat.intCast_lt_intCast];omega
 have hk:0≤tkI li ti sm∧tkI li ti sm≤sm:=by
  unfold tkI
  have:=Int.mul_nonneg h2 h3
  split <;> omega
 have k0:(0:Rat)≤((tkI li ti sm:Int):Rat):=by rw[show (0:Rat)=((0:Int):Rat) from rfl,Rat.intCast_le_intCast];exact hk.1
 have k1:((tkI li ti sm:Int):Rat)≤((sm:Int):Rat):=by rw[Rat.intCast_le_intCast];exact hk.2
 generalize ((tkI li ti sm:Int):Rat)=k at *
 generalize ((sm:Int):Rat)=s at *
 have e:t=k/s:=by grind
 refine⟨e,?_,?_⟩
 ·refine Rat.not_lt.1 fun h=>?_
  have:=Rat.mul_lt_mul_of_pos_right h hs
  rw[ht,Rat.zero_mul] at this
  exact absurd this (Rat.not_lt.2 k0)
 ·refine Rat.not_lt.1 fun h=>?_
  have:=Rat.mul_lt_mul_of_pos_right h hs
  rw[ht,Rat.one_mul] at this
  exact absurd this (Rat.not_lt.2 k1)
theorem zpl (l:Ln) (sm lf bo:Int) (hok:di l) (h1:1≤sm) (h2:0≤lf) (h3:l.kd=3→0≤bo∧bo≤l.li*(l.ti+1)):0≤brI l sm lf bo∧brI l sm lf bo≤lf∧(l.kd=3→brI l sm lf bo≤l.li∧bo+brI l sm lf bo≤l.li*(l.ti+1)):=by
 obtain⟨⟨a1,a2⟩,-,⟨r1,r2,r3,r4⟩,k1,k2,k3,k4⟩:=hok
 obtain⟨n,rfl⟩:∃ n:Nat,lf=(n:Int):=⟨lf.toNat,by omega⟩
 unfold brI
 by_cases e1:l.kd=1
 ·rw[if_pos e1]
  obtain⟨z,hz,hzn⟩:=zjv l.f n (k1 e1).1.1 (k1 e1).1.2
  rw[hz]
  exact⟨by omega,by omega,fun h=>by omega⟩
 ·rw[if_neg e1]
  by_cases e2:l.kd=2
  ·rw[if_pos e2]
   have hs:((sm:Int):Rat)≠0:=by
    intro h
    have:sm=0:=Rat.intCast_inj.1 (by rw[h];rfl)
    omega
   obtain⟨-,t0,t1⟩:=zkk (((tkI l.li l.ti sm:Int):Rat)/((sm:Int):Rat)) l.li l.ti sm h1 r2.1 r4.1 (by
    generalize ((tkI l.li l.ti sm:Int):Rat)=k at *
    generalize ((sm:Int):Rat)=s at *
    grind)
   obtain⟨z,hz,hzn⟩:=zjv _ n t0 t1
   rw[hz]
   exact⟨by omega,by omega,fun h=>by omega⟩
  ·rw[if_neg e2]
   by_cases e3:l.kd=3
   ·rw[if_pos e3]
    obtain⟨b0,b1⟩:=h3 e3
    have:=(k3 e3).1
    generalize l.li*(l.ti+1)=m at *
    unfold abI
    exact⟨by omega,by omega,fun _=>⟨by omega,by omega⟩⟩
   ·rw[if_neg e3]
    exact⟨by omega,by omega,fun h=>absurd h e3⟩
theorem bears_any (l:Ln) (s:Bool) (x y:Int) (p:Option Addr) (sm lf bo:Int) (w:World) (hf:zi w (.agg #[.bool s,.int .u64 x,.int .u64 y,.pointer p]) l.f) (ll:Len l.f 1) (hok:di l) (h1:1≤sm∧sm≤1000000000000) (h2:0≤lf∧lf≤1000000000000) (h3:0≤bo∧bo≤1000000000000000) :
  Calls prog 55 #[zq l.kd s x y p l.fr l.li l.ti l.pr l.to,.int .i64 sm,.int .i64 lf,.int .i64 bo] w fun e w'=>e=.returned (.int .i64 (brI l sm lf bo))∧But [] w w':=by
 obtain⟨⟨a1,a2⟩,-,⟨r1,r2,r3,r4⟩,k1,k2,k3,k4⟩:=hok
 obtain⟨n,rfl⟩:∃ n:Nat,lf=(n:Int):=⟨lf.toNat,by omega⟩
 obtain⟨kd,f,fr,li,ti,pr,tof⟩:=l
 simp only at *
 have hkk:kd=1∨kd=2∨kd=3∨kd=4:=by omega
 rcases hkk with rfl|rfl|rfl|rfl
 ·obtain⟨z,hz,hzn⟩:=zjv f n (k1 rfl).1.1 (k1 rfl).1.2
  have e:brI ⟨1,f,fr,li,ti,pr,tof⟩ sm (n:Int) bo=(z:Int):=by unfold brI;rw[if_pos rfl];exact hz
  rw[e]
  exact zws s x y p fr li ti pr tof f n z sm bo w hf ll (by omega) hz hzn
 ·obtain⟨t,r,u,v,lt,ht,FT,CT⟩:=qbi 2 s x y p fr li ti pr tof sm h1 r2 r4
  obtain⟨et,t0,t1⟩:=zkk t li ti sm h1.1 r2.1 r4.1 ht
  obtain⟨z,hz,hzn⟩:=zjv t n t0 t1
  have e:brI ⟨2,f,fr,li,ti,pr,tof⟩ sm (n:Int) bo=(z:Int):=by unfold brI;rw[if_neg (by simp),if_pos rfl,← et];exact hz
  rw[e]
  exact zof s x y p fr li ti pr tof t r u v n z sm bo w lt FT CT (by omega) hz hzn
 ·have e:brI ⟨3,f,fr,li,ti,pr,tof⟩ sm (n:Int) bo=min (abI fr li n) (li*(ti+1)-bo):=by unfold brI;rw[if_neg (by simp),if_neg (by simp),if_pos rfl]
  rw[e]
  exact zrh s x y p fr li ti pr tof n bo sm w h2 r1 r2 r4 h3
 ·have e:brI ⟨4,f,fr,li,ti,pr,tof⟩ sm (n:Int) bo=0:=by unfold brI;rw[if_neg (by simp),if_neg (by simp),if_neg (by simp)]
  rw[e]
  exact zwr s x y p fr li ti pr tof n bo sm w
set_option linter.unusedVariables false
theorem zdd (a:Act) (w:World) (d t1 t2:Nat) (u:TypeId) (ps:String) (ed:Array Edge) (gd:Option (Nat × Bool)) (z:Int) (h1:a.eval (.tmp t1)=.int .i64 z) (h2:a.eval (.tmp t2)=.int .i64 z) :
  (execOp a.eval { dst:=some d,op:=Op.binOp BinOp.neq 3 (.tmp t1) (.tmp t2) 3,type:=u,pos:=ps,after:=ed,guard:=gd }).run prog w=.ok (.value (.bool false)) w:=by
 unfold execOp
 simp only[h1,h2]
 go_simp
theorem j5 (a:Act) (w:World) (d t1 t2:Nat) (u:TypeId) (ps:String) (ed:Array Edge) (gd:Option (Nat × Bool)) (b off n c k:Nat) (hk:k<n) (_hn:n<1000000) (h1:a.eval (.tmp t1)=.slice (some ⟨b,off,none⟩) n c) (h2:a.eval (.tmp t2)=.int .i64 (k:Int)) :
  (execOp a.eval { dst:=some d,op:=Op.indexAddr 23 (.tmp t1) (.tmp t2),type:=u,pos:=ps,after:=ed,guard:=gd }).run prog w=.ok (.value (.pointer (some ⟨b,off+k*10,none⟩))) w:=by
 unfold execOp
 simp only[h1,h2]
 go_simp
theorem zkw (a:Act) (w:World) (d t:Nat) (u:TypeId) (ps:String) (ed:Array Edge) (gd:Option (Nat × Bool)) (b o:Nat) (h1:a.eval (.tmp t)=.pointer (some ⟨b,o,none⟩)) :
  (execOp a.eval { dst:=some d,op:=Op.fieldAddr 37 (.tmp t) 0,type:=u,pos:=ps,after:=ed,guard:=gd }).run prog w=.ok (.value (.pointer (some ⟨b,o+0,none⟩))) w:=by
 unfold execOp
 simp only[h1]
 go_simp
theorem zkv (a:Act) (w:World) (d t:Nat) (u:TypeId) (ps:String) (ed:Array Edge) (gd:Option (Nat × Bool)) (b o:Nat) (h1:a.eval (.tmp t)=.pointer (some ⟨b,o,none⟩)) :
  (execOp a.eval { dst:=some d,op:=Op.fieldAddr 37 (.tmp t) 1,type:=u,pos:=ps,after:=ed,guard:=gd }).run prog w=.ok (.value (.pointer (some ⟨b,o+1,none⟩))) w:=by
 unfold execOp
 simp only[h1]
 go_simp
theorem zku (a:Act) (w:World) (d t:Nat) (u:TypeId) (ps:String) (ed:Array Edge) (gd:Option (Nat × Bool)) (b o:Nat) (h1:a.eval (.tmp t)=.pointer (some ⟨b,o,none⟩)) :
  (execOp a.eval { dst:=some d,op:=Op.fieldAddr 37 (.tmp t) 2,type:=u,pos:=ps,after:=ed,guard:=gd }).run prog w=.ok (.value (.pointer (some ⟨b,o+5,none⟩))) w:=by
 unfold execOp
 simp only[h1]
 go_simp
theorem zkt (a:Act) (w:World) (d t:Nat) (u:TypeId) (ps:String) (ed:Array Edge) (gd:Option (Nat × Bool)) (b o:Nat) (h1:a.eval (.tmp t)=.pointer (some ⟨b,o,none⟩)) :
  (execOp a.eval { dst:=some d,op:=Op.fieldAddr 37 (.tmp t) 3,type:=u,pos:=ps,after:=ed,guard:=gd }).run prog w=.ok (.value (.pointer (some ⟨b,o+6,none⟩))) w:=by
 unfold execOp
 simp only[h1]
 go_simp
theorem zks (a:Act) (w:World) (d t:Nat) (u:TypeId) (ps:String) (ed:Array Edge) (gd:Option (Nat × Bool)) (b o:Nat) (h1:a.eval (.tmp t)=.pointer (some ⟨b,o,none⟩)) :
  (execOp a.eval { dst:=some d,op:=Op.fieldAddr 37 (.tmp t) 4,type:=u,pos:=ps,after:=ed,guard:=gd }).run prog w=.ok (.value (.pointer (some ⟨b,o+7,none⟩))) w:=by
 unfold execOp
 simp only[h1]
 go_simp
theorem zkr (a:Act) (w:World) (d t:Nat) (u:TypeId) (ps:String) (ed:Array Edge) (gd:Option (Nat × Bool)) (b o:Nat) (h1:a.eval (.tmp t)=.pointer (some ⟨b,o,none⟩)) :
  (execOp a.eval { dst:=some d,op:=Op.fieldAddr 37 (.tmp t) 5,type:=u,pos:=ps,after:=ed,guard:=gd }).run prog w=.ok (.value (.pointer (some ⟨b,o+8,none⟩))) w:=by
 unfold execOp
 simp only[h1]
 go_simp
theorem zkq (a:Act) (w:World) (d t:Nat) (u:TypeId) (ps:String) (ed:Array Edge) (gd:Option (Nat × Bool)) (b o:Nat) (h1:a.eval (.tmp t)=.pointer (some ⟨b,o,none⟩)) :
  (execOp a.eval { dst:=some d,op:=Op.fieldAddr 37 (.tmp t) 6,type:=u,pos:=ps,after:=ed,guard:=gd }).run prog w=.ok (.value (.pointer (some ⟨b,o+9,none⟩))) w:=by
 unfold execOp
 simp only[h1]
 go_simp
theorem zsd (a:Act) (w:World) (d t:Nat) (u:TypeId) (ps:String) (ed:Array Edge) (gd:Option (Nat × Bool)) (b o:Nat) (s:Bool) (x y:Int) (p:Option Addr) (h1:a.eval (.tmp t)=.pointer (some ⟨b,o,none⟩)) (c0:w.cell? ⟨b,o,none⟩=some (.bool s)) (c1:w.cell? ⟨b,o+1,none⟩=some (.int .u64 x)) (c2:w.cell? ⟨b,o+2,none⟩=some (.int .u64 y)) (c3:w.cell? ⟨b,o+3,none⟩=some (.pointer p)) :
  (execOp a.eval { dst:=some d,op:=Op.load 35 (.tmp t),type:=u,pos:=ps,after:=ed,guard:=gd }).run prog w=.ok (.value (.agg #[.bool s,.int .u64 x,.int .u64 y,.pointer p])) w:=by
 unfold execOp
 simp only[h1]
 go_simp
theorem zsb (a:Act) (w:World) (d t:Nat) (u:TypeId) (ps:String) (ed:Array Edge) (gd:Option (Nat × Bool)) (b o:Nat) (z:ByteArray) (h1:a.eval (.tmp t)=.pointer (some ⟨b,o,none⟩)) (hc:w.cell? ⟨b,o,none⟩=some (.string z)) :
  (execOp a.eval { dst:=some d,op:=Op.load 9 (.tmp t),type:=u,pos:=ps,after:=ed,guard:=gd }).run prog w=.ok (.value (.string z)) w:=by
 unfold execOp
 simp only[h1]
 go_simp
theorem zyp (a:Act) (w:World) (d t1 t2:Nat) (u:TypeId) (ps:String) (ed:Array Edge) (gd:Option (Nat × Bool)) (z:ByteArray) (h1:a.eval (.tmp t1)=.string z) (h2:a.eval (.tmp t2)=.string z) :
  (execOp a.eval { dst:=some d,op:=Op.binOp BinOp.neq 9 (.tmp t1) (.tmp t2) 9,type:=u,pos:=ps,after:=ed,guard:=gd }).run prog w=.ok (.value (.bool false)) w:=by
 unfold execOp
 simp only[h1,h2]
 go_simp
theorem qbs (a:Act) (w:World) (d t:Nat) (u:TypeId) (ps:String) (ed:Array Edge) (gd:Option (Nat × Bool)) (h1:a.eval (.tmp t)=.bool true) :
  (execOp a.eval { dst:=some d,op:=Op.unOp UnOp.not 4 (.tmp t),type:=u,pos:=ps,after:=ed,guard:=gd }).run prog w=.ok (.value (.bool false)) w:=by
 unfold execOp
 simp only[h1]
 go_simp
theorem zaj (a:Act) (w:World) (d t1 t2:Nat) (u:TypeId) (ps:String) (ed:Array Edge) (gd:Option (Nat × Bool)) (h1:a.eval (.tmp t1)=.bool false) (h2:a.eval (.tmp t2)=.bool false) :
  (execOp a.eval { dst:=some d,op:=Op.pick (.tmp t1) (.const (.bool true)) (.tmp t2),type:=u,pos:=ps,after:=ed,guard:=gd }).run prog w=.ok (.value (.bool false)) w:=by
 unfold execOp
 simp only[h1,h2]
 go_simp
theorem zyu (a:Act) (w:World) (d t1 t2:Nat) (u:TypeId) (ps:String) (ed:Array Edge) (gd:Option (Nat × Bool)) (x1 x2:Value) (h1:a.eval (.tmp t1)=x1) (h2:a.eval (.tmp t2)=x2) :
  (execOp a.eval { dst:=some d,op:=Op.call { callee:=Callee.value (Operand.func 8),args:=#[Operand.tmp t1,Operand.tmp t2],argTypes:=#[35,35] },type:=u,pos:=ps,after:=ed,guard:=gd }).run prog w=.ok (.enter 8 #[x1,x2]) w:=by
 unfold execOp
 go_simp
 rw[← h1,← h2]
 simp[Act.eval]
def qua:Oper:=⟨some 49,.move (.tmp 6),23, "house.go:77",#[],none⟩
def qtz:Oper:=⟨some 50,.move (.tmp 7),3, "house.go:77",#[],none⟩
def qty:Oper:=⟨some 51,.indexAddr 23 (.tmp 49) (.tmp 50),0, "house.go:77",#[⟨0,.data⟩,⟨1,.data⟩],none⟩
def qtx:Oper:=⟨some 52,.fieldAddr 37 (.tmp 51) 0,0, "house.go:77",#[⟨2,.data⟩],none⟩
def qtw:Oper:=⟨some 53,.load 3 (.tmp 52),3, "house.go:77",#[⟨3,.data⟩],none⟩
def qtv:Oper:=⟨some 54,.move (.tmp 3),23, "house.go:77",#[],none⟩
def qtu:Oper:=⟨some 55,.move (.tmp 7),3, "house.go:77",#[],none⟩
def qtt:Oper:=⟨some 56,.indexAddr 23 (.tmp 54) (.tmp 55),0, "house.go:77",#[⟨5,.data⟩,⟨6,.data⟩],none⟩
def qts:Oper:=⟨some 57,.fieldAddr 37 (.tmp 56) 0,0, "house.go:77",#[⟨7,.data⟩],none⟩
def qtr:Oper:=⟨some 58,.load 3 (.tmp 57),3, "house.go:77",#[⟨8,.data⟩],none⟩
def qsy:Oper:=⟨some 59,.binOp .neq 3 (.tmp 53) (.tmp 58) 3,4, "house.go:77",#[⟨4,.data⟩,⟨9,.data⟩],none⟩
def qsx:Oper:=⟨some 60,.move (.tmp 59),4, "house.go:77",#[⟨10,.data⟩],none⟩
def qsw:Oper:=⟨some 61,.move (.tmp 6),23, "house.go:77",#[⟨11,.guard⟩],some (11,false)⟩
def qsv:Oper:=⟨some 62,.move (.tmp 7),3, "house.go:77",#[⟨11,.guard⟩],some (11,false)⟩
def qsu:Oper:=⟨some 63,.indexAddr 23 (.tmp 61) (.tmp 62),0, "house.go:77",#[⟨12,.data⟩,⟨13,.data⟩,⟨11,.guard⟩],some (11,false)⟩
def qst:Oper:=⟨some 64,.fieldAddr 37 (.tmp 63) 1,0, "house.go:77",#[⟨14,.data⟩,⟨11,.guard⟩],some (11,false)⟩
def qss:Oper:=⟨some 65,.load 35 (.tmp 64),35, "house.go:77",#[⟨15,.data⟩,⟨11,.guard⟩],some (11,false)⟩
def qsr:Oper:=⟨some 66,.move (.tmp 3),23, "house.go:77",#[⟨11,.guard⟩],some (11,false)⟩
def qsq:Oper:=⟨some 67,.move (.tmp 7),3, "house.go:77",#[⟨11,.guard⟩],some (11,false)⟩
def qsp:Oper:=⟨some 68,.indexAddr 23 (.tmp 66) (.tmp 67),0, "house.go:77",#[⟨17,.data⟩,⟨18,.data⟩,⟨11,.guard⟩],some (11,false)⟩
def qso:Oper:=⟨some 69,.fieldAddr 37 (.tmp 68) 1,0, "house.go:77",#[⟨19,.data⟩,⟨11,.guard⟩],some (11,false)⟩
def qsn:Oper:=⟨some 70,.load 35 (.tmp 69),35, "house.go:77",#[⟨20,.data⟩,⟨11,.guard⟩],some (11,false)⟩
def qsm:Oper:=⟨some 71,.call { callee:=.value (.func 8),args:=#[.tmp 65,.tmp 70],argTypes:=#[35,35] },4, "house.go:77",#[⟨16,.data⟩,⟨21,.data⟩,⟨11,.chain⟩,⟨11,.guard⟩],some (11,false)⟩
def qsl:Oper:=⟨some 72,.unOp .not 4 (.tmp 71),4, "house.go:77",#[⟨22,.data⟩,⟨11,.guard⟩],some (11,false)⟩
def qsk:Oper:=⟨some 73,.pick (.tmp 60) (.const (.bool true)) (.tmp 72),4, "house.go:77",#[⟨11,.data⟩,⟨23,.data⟩],none⟩
def qsj:Oper:=⟨some 74,.move (.tmp 73),4, "house.go:77",#[⟨24,.data⟩,⟨22,.chain⟩],none⟩
def qsi:Oper:=⟨some 75,.move (.tmp 6),23, "house.go:77",#[⟨25,.guard⟩],some (25,false)⟩
def qsh:Oper:=⟨some 76,.move (.tmp 7),3, "house.go:77",#[⟨25,.guard⟩],some (25,false)⟩
def qsg:Oper:=⟨some 77,.indexAddr 23 (.tmp 75) (.tmp 76),0, "house.go:77",#[⟨26,.data⟩,⟨27,.data⟩,⟨25,.guard⟩],some (25,false)⟩
def qsf:Oper:=⟨some 78,.fieldAddr 37 (.tmp 77) 2,0, "house.go:77",#[⟨28,.data⟩,⟨25,.guard⟩],some (25,false)⟩
def qse:Oper:=⟨some 79,.load 3 (.tmp 78),3, "house.go:77",#[⟨29,.data⟩,⟨25,.guard⟩],some (25,false)⟩
def qsd:Oper:=⟨some 80,.move (.tmp 3),23, "house.go:77",#[⟨25,.guard⟩],some (25,false)⟩
def qsc:Oper:=⟨some 81,.move (.tmp 7),3, "house.go:77",#[⟨25,.guard⟩],some (25,false)⟩
def qsb:Oper:=⟨some 82,.indexAddr 23 (.tmp 80) (.tmp 81),0, "house.go:77",#[⟨31,.data⟩,⟨32,.data⟩,⟨25,.guard⟩],some (25,false)⟩
def qsa:Oper:=⟨some 83,.fieldAddr 37 (.tmp 82) 2,0, "house.go:77",#[⟨33,.data⟩,⟨25,.guard⟩],some (25,false)⟩
def qrz:Oper:=⟨some 84,.load 3 (.tmp 83),3, "house.go:77",#[⟨34,.data⟩,⟨25,.guard⟩],some (25,false)⟩
def qry:Oper:=⟨some 85,.binOp .neq 3 (.tmp 79) (.tmp 84) 3,4, "house.go:77",#[⟨30,.data⟩,⟨35,.data⟩,⟨25,.guard⟩],some (25,false)⟩
def qrx:Oper:=⟨some 86,.pick (.tmp 74) (.const (.bool true)) (.tmp 85),4, "house.go:77",#[⟨25,.data⟩,⟨36,.data⟩],none⟩
def qrw:Oper:=⟨some 87,.move (.tmp 86),4, "house.go:77",#[⟨37,.data⟩,⟨25,.chain⟩],none⟩
def qrv:Oper:=⟨some 88,.move (.tmp 6),23, "house.go:77",#[⟨38,.guard⟩],some (38,false)⟩
def qru:Oper:=⟨some 89,.move (.tmp 7),3, "house.go:77",#[⟨38,.guard⟩],some (38,false)⟩
def qrt:Oper:=⟨some 90,.indexAddr 23 (.tmp 88) (.tmp 89),0, "house.go:77",#[⟨39,.data⟩,⟨40,.data⟩,⟨38,.guard⟩],some (38,false)⟩
def qrs:Oper:=⟨some 91,.fieldAddr 37 (.tmp 90) 3,0, "house.go:77",#[⟨41,.data⟩,⟨38,.guard⟩],some (38,false)⟩
def qrr:Oper:=⟨some 92,.load 3 (.tmp 91),3, "house.go:77",#[⟨42,.data⟩,⟨38,.guard⟩],some (38,false)⟩
def qrq:Oper:=⟨some 93,.move (.tmp 3),23, "house.go:77",#[⟨38,.guard⟩],some (38,false)⟩
def qrp:Oper:=⟨some 94,.move (.tmp 7),3, "house.go:77",#[⟨38,.guard⟩],some (38,false)⟩
def qro:Oper:=⟨some 95,.indexAddr 23 (.tmp 93) (.tmp 94),0, "house.go:77",#[⟨44,.data⟩,⟨45,.data⟩,⟨38,.guard⟩],some (38,false)⟩
def qrn:Oper:=⟨some 96,.fieldAddr 37 (.tmp 95) 3,0, "house.go:77",#[⟨46,.data⟩,⟨38,.guard⟩],some (38,false)⟩
def qrm:Oper:=⟨some 97,.load 3 (.tmp 96),3, "house.go:77",#[⟨47,.data⟩,⟨38,.guard⟩],some (38,false)⟩
def qrl:Oper:=⟨some 98,.binOp .neq 3 (.tmp 92) (.tmp 97) 3,4, "house.go:77",#[⟨43,.data⟩,⟨48,.data⟩,⟨38,.guard⟩],some (38,false)⟩
def qrk:Oper:=⟨some 99,.pick (.tmp 87) (.const (.bool true)) (.tmp 98),4, "house.go:77",#[⟨38,.data⟩,⟨49,.data⟩],none⟩
def qrj:Oper:=⟨some 100,.move (.tmp 99),4, "house.go:77",#[⟨50,.data⟩,⟨38,.chain⟩],none⟩
def qri:Oper:=⟨some 101,.move (.tmp 6),23, "house.go:77",#[⟨51,.guard⟩],some (51,false)⟩
def qrh:Oper:=⟨some 102,.move (.tmp 7),3, "house.go:77",#[⟨51,.guard⟩],some (51,false)⟩
def qrg:Oper:=⟨some 103,.indexAddr 23 (.tmp 101) (.tmp 102),0, "house.go:77",#[⟨52,.data⟩,⟨53,.data⟩,⟨51,.guard⟩],some (51,false)⟩
def qrf:Oper:=⟨some 104,.fieldAddr 37 (.tmp 103) 4,0, "house.go:77",#[⟨54,.data⟩,⟨51,.guard⟩],some (51,false)⟩
def qre:Oper:=⟨some 105,.load 3 (.tmp 104),3, "house.go:77",#[⟨55,.data⟩,⟨51,.guard⟩],some (51,false)⟩
def qrd:Oper:=⟨some 106,.move (.tmp 3),23, "house.go:77",#[⟨51,.guard⟩],some (51,false)⟩
def qrc:Oper:=⟨some 107,.move (.tmp 7),3, "house.go:77",#[⟨51,.guard⟩],some (51,false)⟩
def qrb:Oper:=⟨some 108,.indexAddr 23 (.tmp 106) (.tmp 107),0, "house.go:77",#[⟨57,.data⟩,⟨58,.data⟩,⟨51,.guard⟩],some (51,false)⟩
def qra:Oper:=⟨some 109,.fieldAddr 37 (.tmp 108) 4,0, "house.go:77",#[⟨59,.data⟩,⟨51,.guard⟩],some (51,false)⟩
def qqz:Oper:=⟨some 110,.load 3 (.tmp 109),3, "house.go:77",#[⟨60,.data⟩,⟨51,.guard⟩],some (51,false)⟩
def qqy:Oper:=⟨some 111,.binOp .neq 3 (.tmp 105) (.tmp 110) 3,4, "house.go:77",#[⟨56,.data⟩,⟨61,.data⟩,⟨51,.guard⟩],some (51,false)⟩
def qqx:Oper:=⟨some 112,.pick (.tmp 100) (.const (.bool true)) (.tmp 111),4, "house.go:77",#[⟨51,.data⟩,⟨62,.data⟩],none⟩
def qqw:Oper:=⟨some 113,.move (.tmp 112),4, "house.go:77",#[⟨63,.data⟩,⟨51,.chain⟩],none⟩
def qqv:Oper:=⟨some 114,.move (.tmp 6),23, "house.go:77",#[⟨64,.guard⟩],some (64,false)⟩
def qqu:Oper:=⟨some 115,.move (.tmp 7),3, "house.go:77",#[⟨64,.guard⟩],some (64,false)⟩
def qqt:Oper:=⟨some 116,.indexAddr 23 (.tmp 114) (.tmp 115),0, "house.go:77",#[⟨65,.data⟩,⟨66,.data⟩,⟨64,.guard⟩],some (64,false)⟩
def qqs:Oper:=⟨some 117,.fieldAddr 37 (.tmp 116) 5,0, "house.go:77",#[⟨67,.data⟩,⟨64,.guard⟩],some (64,false)⟩
def qqr:Oper:=⟨some 118,.load 3 (.tmp 117),3, "house.go:77",#[⟨68,.data⟩,⟨64,.guard⟩],some (64,false)⟩
def qqq:Oper:=⟨some 119,.move (.tmp 3),23, "house.go:77",#[⟨64,.guard⟩],some (64,false)⟩
def qqp:Oper:=⟨some 120,.move (.tmp 7),3, "house.go:77",#[⟨64,.guard⟩],some (64,false)⟩
def qqo:Oper:=⟨some 121,.indexAddr 23 (.tmp 119) (.tmp 120),0, "house.go:77",#[⟨70,.data⟩,⟨71,.data⟩,⟨64,.guard⟩],some (64,false)⟩
def qqn:Oper:=⟨some 122,.fieldAddr 37 (.tmp 121) 5,0, "house.go:77",#[⟨72,.data⟩,⟨64,.guard⟩],some (64,false)⟩
def qqm:Oper:=⟨some 123,.load 3 (.tmp 122),3, "house.go:77",#[⟨73,.data⟩,⟨64,.guard⟩],some (64,false)⟩
def qql:Oper:=⟨some 124,.binOp .neq 3 (.tmp 118) (.tmp 123) 3,4, "house.go:77",#[⟨69,.data⟩,⟨74,.data⟩,⟨64,.guard⟩],some (64,false)⟩
def qqk:Oper:=⟨some 125,.pick (.tmp 113) (.const (.bool true)) (.tmp 124),4, "house.go:77",#[⟨64,.data⟩,⟨75,.data⟩],none⟩
def qqj:Oper:=⟨some 126,.move (.tmp 125),4, "house.go:77",#[⟨76,.data⟩,⟨64,.chain⟩],none⟩
def qqi:Oper:=⟨some 127,.move (.tmp 6),23, "house.go:77",#[⟨77,.guard⟩],some (77,false)⟩
def qqh:Oper:=⟨some 128,.move (.tmp 7),3, "house.go:77",#[⟨77,.guard⟩],some (77,false)⟩
def qqg:Oper:=⟨some 129,.indexAddr 23 (.tmp 127) (.tmp 128),0, "house.go:77",#[⟨78,.data⟩,⟨79,.data⟩,⟨77,.guard⟩],some (77,false)⟩
def qqf:Oper:=⟨some 130,.fieldAddr 37 (.tmp 129) 6,0, "house.go:77",#[⟨80,.data⟩,⟨77,.guard⟩],some (77,false)⟩
def qqe:Oper:=⟨some 131,.load 9 (.tmp 130),9, "house.go:77",#[⟨81,.data⟩,⟨77,.guard⟩],some (77,false)⟩
def qqd:Oper:=⟨some 132,.move (.tmp 3),23, "house.go:77",#[⟨77,.guard⟩],some (77,false)⟩
def qqc:Oper:=⟨some 133,.move (.tmp 7),3, "house.go:77",#[⟨77,.guard⟩],some (77,false)⟩
def qqb:Oper:=⟨some 134,.indexAddr 23 (.tmp 132) (.tmp 133),0, "house.go:77",#[⟨83,.data⟩,⟨84,.data⟩,⟨77,.guard⟩],some (77,false)⟩
def qqa:Oper:=⟨some 135,.fieldAddr 37 (.tmp 134) 6,0, "house.go:77",#[⟨85,.data⟩,⟨77,.guard⟩],some (77,false)⟩
def qpz:Oper:=⟨some 136,.load 9 (.tmp 135),9, "house.go:77",#[⟨86,.data⟩,⟨77,.guard⟩],some (77,false)⟩
def qpy:Oper:=⟨some 137,.binOp .neq 9 (.tmp 131) (.tmp 136) 9,4, "house.go:77",#[⟨82,.data⟩,⟨87,.data⟩,⟨77,.guard⟩],some (77,false)⟩
def qpx:Oper:=⟨some 138,.pick (.tmp 126) (.const (.bool true)) (.tmp 137),4, "house.go:77",#[⟨77,.data⟩,⟨88,.data⟩],none⟩
def qtp:List Oper:=[qua,qtz,qty,qtx,qtw,qtv,qtu,qtt,qts,qtr,qsy,qsx,qsw,qsv,qsu,qst,qss,qsr,qsq,qsp,qso,qsn,qsm,qsl,qsk,qsj,qsi,qsh,qsg,qsf,qse,qsd,qsc,qsb,qsa,qrz,qry,qrx,qrw,qrv,qru,qrt,qrs,qrr,qrq,qrp,qro,qrn,qrm,qrl,qrk,qrj,qri,qrh,qrg,qrf,qre,qrd,qrc,qrb,qra,qqz,qqy,qqx,qqw,qqv,qqu,qqt,qqs,qqr,qqq,qqp,qqo,qqn,qqm,qql,qqk,qqj,qqi,qqh,qqg,qqf,qqe,qqd,qqc,qqb,qqa,qpz,qpy,qpx]
def qtq (yb:Nat) (yo:Nat) (yc:Nat) (xb:Nat) (xo:Nat) (xc:Nat) (n:Nat) (ia:Nat) (kd:Int) (fr:Int) (li:Int) (ti:Int) (pr:Int) (nm:ByteArray) (s1:Bool) (x1:Int) (y1:Int) (p1:Option Addr) (s2:Bool) (x2:Int) (y2:Int) (p2:Option Addr):List Value:=[.slice (some ⟨yb,yo,none⟩) n yc,.int .i64 (ia:Int),.pointer (some ⟨yb,yo+ia*10,none⟩),.pointer (some ⟨yb,yo+ia*10+0,none⟩),.int .i64 kd,.slice (some ⟨xb,xo,none⟩) n xc,.int .i64 (ia:Int),.pointer (some ⟨xb,xo+ia*10,none⟩),.pointer (some ⟨xb,xo+ia*10+0,none⟩),.int .i64 kd,.bool false,.bool false,.slice (some ⟨yb,yo,none⟩) n yc,.int .i64 (ia:Int),.pointer (some ⟨yb,yo+ia*10,none⟩),.pointer (some ⟨yb,yo+ia*10+1,none⟩),.agg #[.bool s1,.int .u64 x1,.int .u64 y1,.pointer p1],.slice (some ⟨xb,xo,none⟩) n xc,.int .i64 (ia:Int),.pointer (some ⟨xb,xo+ia*10,none⟩),.pointer (some ⟨xb,xo+ia*10+1,none⟩),.agg #[.bool s2,.int .u64 x2,.int .u64 y2,.pointer p2],.bool true,.bool false,.bool false,.bool false,.slice (some ⟨yb,yo,none⟩) n yc,.int .i64 (ia:Int),.pointer (some ⟨yb,yo+ia*10,none⟩),.pointer (some ⟨yb,yo+ia*10+5,none⟩),.int .i64 fr,.slice (some ⟨xb,xo,none⟩) n xc,.int .i64 (ia:Int),.pointer (some ⟨xb,xo+ia*10,none⟩),.pointer (some ⟨xb,xo+ia*10+5,none⟩),.int .i64 fr,.bool false,.bool false,.bool false,.slice (some ⟨yb,yo,none⟩) n yc,.int .i64 (ia:Int),.pointer (some ⟨yb,yo+ia*10,none⟩),.pointer (some ⟨yb,yo+ia*10+6,none⟩),.int .i64 li,.slice (some ⟨xb,xo,none⟩) n xc,.int .i64 (ia:Int),.pointer (some ⟨xb,xo+ia*10,none⟩),.pointer (some ⟨xb,xo+ia*10+6,none⟩),.int .i64 li,.bool false,.bool false,.bool false,.slice (some ⟨yb,yo,none⟩) n yc,.int .i64 (ia:Int),.pointer (some ⟨yb,yo+ia*10,none⟩),.pointer (some ⟨yb,yo+ia*10+7,none⟩),.int .i64 ti,.slice (some ⟨xb,xo,none⟩) n xc,.int .i64 (ia:Int),.pointer (some ⟨xb,xo+ia*10,none⟩),.pointer (some ⟨xb,xo+ia*10+7,none⟩),.int .i64 ti,.bool false,.bool false,.bool false,.slice (some ⟨yb,yo,none⟩) n yc,.int .i64 (ia:Int),.pointer (some ⟨yb,yo+ia*10,none⟩),.pointer (some ⟨yb,yo+ia*10+8,none⟩),.int .i64 pr,.slice (some ⟨xb,xo,none⟩) n xc,.int .i64 (ia:Int),.pointer (some ⟨xb,xo+ia*10,none⟩),.pointer (some ⟨xb,xo+ia*10+8,none⟩),.int .i64 pr,.bool false,.bool false,.bool false,.slice (some ⟨yb,yo,none⟩) n yc,.int .i64 (ia:Int),.pointer (some ⟨yb,yo+ia*10,none⟩),.pointer (some ⟨yb,yo+ia*10+9,none⟩),.string nm,.slice (some ⟨xb,xo,none⟩) n xc,.int .i64 (ia:Int),.pointer (some ⟨xb,xo+ia*10,none⟩),.pointer (some ⟨xb,xo+ia*10+9,none⟩),.string nm,.bool false,.bool false]
def qjk (yb:Nat) (yo:Nat) (yc:Nat) (xb:Nat) (xo:Nat) (xc:Nat) (n:Nat) (ia:Nat) (kd:Int) (fr:Int) (li:Int) (ti:Int) (pr:Int) (nm:ByteArray) (s1:Bool) (x1:Int) (y1:Int) (p1:Option Addr) (s2:Bool) (x2:Int) (y2:Int) (p2:Option Addr) (i:Nat):Value:=(qtq yb yo yc xb xo xc n ia kd fr li ti pr nm s1 x1 y1 p1 s2 x2 y2 p2).getD i .nilIface
theorem zog (id:Nat) (Q:Exit→Act→World→Prop) (base:Act) (W0:World) (yb:Nat) (yo:Nat) (yc:Nat) (xb:Nat) (xo:Nat) (xc:Nat) (n:Nat) (ia:Nat) (kd:Int) (fr:Int) (li:Int) (ti:Int) (pr:Int) (nm:ByteArray) (s1:Bool) (x1:Int) (y1:Int) (p1:Option Addr) (s2:Bool) (x2:Int) (y2:Int) (p2:Option Addr) (hs:139≤base.tmps.size) (e6:base.eval (.tmp 6)=.slice (some ⟨yb,yo,none⟩) n yc) (e7:base.eval (.tmp 7)=.int .i64 (ia:Int)) (e3:base.eval (.tmp 3)=.slice (some ⟨xb,xo,none⟩) n xc)
  (hia:ia<n) (hn2:n<1000000) (y0c:W0.cell? ⟨yb,yo+ia*10+0,none⟩=some (.int .i64 kd)) (y1c:W0.cell? ⟨yb,yo+ia*10+1,none⟩=some (.bool s1)) (y2c:W0.cell? ⟨yb,yo+ia*10+1+1,none⟩=some (.int .u64 x1)) (y3c:W0.cell? ⟨yb,yo+ia*10+1+2,none⟩=some (.int .u64 y1)) (y4c:W0.cell? ⟨yb,yo+ia*10+1+3,none⟩=some (.pointer p1)) (y5c:W0.cell? ⟨yb,yo+ia*10+5,none⟩=some (.int .i64 fr)) (y6c:W0.cell? ⟨yb,yo+ia*10+6,none⟩=some (.int .i64 li)) (y7c:W0.cell? ⟨yb,yo+ia*10+7,none⟩=some (.int .i64 ti)) (y8c:W0.cell? ⟨yb,yo+ia*10+8,none⟩=some (.int .i64 pr)) (y9c:W0.cell? ⟨yb,yo+ia*10+9,none⟩=some (.string nm)) (x0c:W0.cell? ⟨xb,xo+ia*10+0,none⟩=some (.int .i64 kd)) (x1c:W0.cell? ⟨xb,xo+ia*10+1,none⟩=some (.bool s2)) (x2c:W0.cell? ⟨xb,xo+ia*10+1+1,none⟩=some (.int .u64 x2)) (x3c:W0.cell? ⟨xb,xo+ia*10+1+2,none⟩=some (.int .u64 y2)) (x4c:W0.cell? ⟨xb,xo+ia*10+1+3,none⟩=some (.pointer p2)) (x5c:W0.cell? ⟨xb,xo+ia*10+5,none⟩=some (.int .i64 fr)) (x6c:W0.cell? ⟨xb,xo+ia*10+6,none⟩=some (.int .i64 li)) (x7c:W0.cell? ⟨xb,xo+ia*10+7,none⟩=some (.int .i64 ti)) (x8c:W0.cell? ⟨xb,xo+ia*10+8,none⟩=some (.int .i64 pr)) (x9c:W0.cell? ⟨xb,xo+ia*10+9,none⟩=some (.string nm)) (LK:∀ w,But [] W0 w→Calls prog 8 #[.agg #[.bool s1,.int .u64 x1,.int .u64 y1,.pointer p1],.agg #[.bool s2,.int .u64 x2,.int .u64 y2,.pointer p2]] w fun e w'=>e=.returned (.bool true)∧But [] w w')
  (hQ:∀ (V:Nat→Value) (w:World),But [] W0 w→Q .normal { base with tmps:=(base.tmps.toList.take 49++[V 0,V 1,V 2,V 3,V 4,V 5,V 6,V 7,V 8,V 9,V 10,V 11,V 12,V 13,V 14,V 15,V 16,V 17,V 18,V 19,V 20,V 21,V 22,V 23,V 24,V 25,V 26,V 27,V 28,V 29,V 30,V 31,V 32,V 33,V 34,V 35,V 36,V 37,V 38,V 39,V 40,V 41,V 42,V 43,V 44,V 45,V 46,V 47,V 48,V 49,V 50,V 51,V 52,V 53,V 54,V 55,V 56,V 57,V 58,V 59,V 60,V 61,V 62,V 63,V 64,V 65,V 66,V 67,V 68,V 69,V 70,V 71,V 72,V 73,V 74,V 75,V 76,V 77,V 78,V 79,V 80,V 81,V 82,V 83,V 84,V 85,V 86,V 87,V 88,.bool false]++base.tmps.toList.drop 139).toArray } w) :
  (Code.region id qtp.toArray true).wp prog Q base W0:=by
 have hdr:∀ {w},But [] W0.drew w→But [] W0 w:=fun h=>(But.refl _ _).drew.trans' h
 have he':∀ (a:Act),(∀ t,t<49→a.eval (.tmp t)=base.eval (.tmp t))→a.eval (.tmp 6)=.slice (some ⟨yb,yo,none⟩) n yc∧a.eval (.tmp 7)=.int .i64 (ia:Int)∧a.eval (.tmp 3)=.slice (some ⟨xb,xo,none⟩) n xc:=fun a he=>⟨(he 6 (by decide)).trans e6,(he 7 (by decide)).trans e7,(he 3 (by decide)).trans e3⟩
 refine zsi (by kernel_rfl) (wh (by kernel_rfl)) 49 90 rfl (qjk yb yo yc xb xo xc n ia kd fr li ti pr nm s1 x1 y1 p1 s2 x2 y2 p2) (by kernel_rfl) ?_ hs ?_ ?_
 ·refine (zn.more (n:=0) (ji rfl) (zn.more (n:=1) (ji rfl) (zn.more (n:=2) (ji rfl) (zn.more (n:=3) (ji rfl) (zn.more (n:=4) (ji rfl) (zn.more (n:=5) (ji rfl) (zn.more (n:=6) (ji rfl) (zn.more (n:=7) (ji rfl) (zn.more (n:=8) (ji rfl) (zn.more (n:=9) (ji rfl) (zn.more (n:=10) (ji rfl) (zn.more (n:=11) (ji rfl) (zn.more (n:=12) (zx 11 false rfl rfl) (zn.more (n:=13) (zx 11 false rfl rfl) (zn.more (n:=14) (zx 11 false rfl rfl) (zn.more (n:=15) (zx 11 false rfl rfl) (zn.more (n:=16) (zx 11 false rfl rfl) (zn.more (n:=17) (zx 11 false rfl rfl) (zn.more (n:=18) (zx 11 false rfl rfl) (zn.more (n:=19) (zx 11 false rfl rfl) (zn.more (n:=20) (zx 11 false rfl rfl) (zn.more (n:=21) (zx 11 false rfl rfl) (zn.more (n:=22) (zx 11 false rfl rfl) (zn.more (n:=23) (zx 11 false rfl rfl) (zn.more (n:=24) (ji rfl) (zn.more (n:=25) (ji rfl) (zn.more (n:=26) (zx 25 false rfl rfl) (zn.more (n:=27) (zx 25 false rfl rfl) (zn.more (n:=28) (zx 25 false rfl rfl) (zn.more (n:=29) (zx 25 false rfl rfl) (zn.more (n:=30) (zx 25 false rfl rfl) (zn.more (n:=31) (zx 25 false rfl rfl) (zn.more (n:=32) (zx 25 false rfl rfl) (zn.more (n:=33) (zx 25 false rfl rfl) (zn.more (n:=34) (zx 25 false rfl rfl) (zn.more (n:=35) (zx 25 false rfl rfl) (zn.more (n:=36) (zx 25 false rfl rfl) (zn.more (n:=37) (ji rfl) (zn.more (n:=38) (ji rfl) (zn.more (n:=39) (zx 38 false rfl rfl) (zn.more (n:=40) (zx 38 false rfl rfl) (zn.more (n:=41) (zx 38 false rfl rfl) (zn.more (n:=42) (zx 38 false rfl rfl) (zn.more (n:=43) (zx 38 false rfl rfl) (zn.more (n:=44) (zx 38 false rfl rfl) (zn.more (n:=45) (zx 38 false rfl rfl) (zn.more (n:=46) (zx 38 false rfl rfl) (zn.more (n:=47) (zx 38 false rfl rfl) (zn.more (n:=48) (zx 38 false rfl rfl) (zn.more (n:=49) (zx 38 false rfl rfl) (zn.more (n:=50) (ji rfl) (zn.more (n:=51) (ji rfl) (zn.more (n:=52) (zx 51 false rfl rfl) (zn.more (n:=53) (zx 51 false rfl rfl) (zn.more (n:=54) (zx 51 false rfl rfl) (zn.more (n:=55) (zx 51 false rfl rfl) (zn.more (n:=56) (zx 51 false rfl rfl) (zn.more (n:=57) (zx 51 false rfl rfl) (zn.more (n:=58) (zx 51 false rfl rfl) (zn.more (n:=59) (zx 51 false rfl rfl) (zn.more (n:=60) (zx 51 false rfl rfl) (zn.more (n:=61) (zx 51 false rfl rfl) (zn.more (n:=62) (zx 51 false rfl rfl) (zn.more (n:=63) (ji rfl) (zn.more (n:=64) (ji rfl) (zn.more (n:=65) (zx 64 false rfl rfl) (zn.more (n:=66) (zx 64 false rfl rfl) (zn.more (n:=67) (zx 64 false rfl rfl) (zn.more (n:=68) (zx 64 false rfl rfl) (zn.more (n:=69) (zx 64 false rfl rfl) (zn.more (n:=70) (zx 64 false rfl rfl) (zn.more (n:=71) (zx 64 false rfl rfl) (zn.more (n:=72) (zx 64 false rfl rfl) (zn.more (n:=73) (zx 64 false rfl rfl) (zn.more (n:=74) (zx 64 false rfl rfl) (zn.more (n:=75) (zx 64 false rfl rfl) (zn.more (n:=76) (ji rfl) (zn.more (n:=77) (ji rfl) (zn.more (n:=78) (zx 77 false rfl rfl) (zn.more (n:=79) (zx 77 false rfl rfl) (zn.more (n:=80) (zx 77 false rfl rfl) (zn.more (n:=81) (zx 77 false rfl rfl) (zn.more (n:=82) (zx 77 false rfl rfl) (zn.more (n:=83) (zx 77 false rfl rfl) (zn.more (n:=84) (zx 77 false rfl rfl) (zn.more (n:=85) (zx 77 false rfl rfl) (zn.more (n:=86) (zx 77 false rfl rfl) (zn.more (n:=87) (zx 77 false rfl rfl) (zn.more (n:=88) (zx 77 false rfl rfl) (zn.more (n:=89) (ji rfl) zn.done))))))))))))))))))))))))))))))))))))))))))))))))))))))))))))))))))))))))))))))))))))))))))
 ·refine (zn.more (n:=0) ?_ (zn.more (n:=1) ?_ (zn.more (n:=2) ?_ (zn.more (n:=3) ?_ (zn.more (n:=4) ?_ (zn.more (n:=5) ?_ (zn.more (n:=6) ?_ (zn.more (n:=7) ?_ (zn.more (n:=8) ?_ (zn.more (n:=9) ?_ (zn.more (n:=10) ?_ (zn.more (n:=11) ?_ (zn.more (n:=12) ?_ (zn.more (n:=13) ?_ (zn.more (n:=14) ?_ (zn.more (n:=15) ?_ (zn.more (n:=16) ?_ (zn.more (n:=17) ?_ (zn.more (n:=18) ?_ (zn.more (n:=19) ?_ (zn.more (n:=20) ?_ (zn.more (n:=21) ?_ (zn.more (n:=22) ?_ (zn.more (n:=23) ?_ (zn.more (n:=24) ?_ (zn.more (n:=25) ?_ (zn.more (n:=26) ?_ (zn.more (n:=27) ?_ (zn.more (n:=28) ?_ (zn.more (n:=29) ?_ (zn.more (n:=30) ?_ (zn.more (n:=31) ?_ (zn.more (n:=32) ?_ (zn.more (n:=33) ?_ (zn.more (n:=34) ?_ (zn.more (n:=35) ?_ (zn.more (n:=36) ?_ (zn.more (n:=37) ?_ (zn.more (n:=38) ?_ (zn.more (n:=39) ?_ (zn.more (n:=40) ?_ (zn.more (n:=41) ?_ (zn.more (n:=42) ?_ (zn.more (n:=43) ?_ (zn.more (n:=44) ?_ (zn.more (n:=45) ?_ (zn.more (n:=46) ?_ (zn.more (n:=47) ?_ (zn.more (n:=48) ?_ (zn.more (n:=49) ?_ (zn.more (n:=50) ?_ (zn.more (n:=51) ?_ (zn.more (n:=52) ?_ (zn.more (n:=53) ?_ (zn.more (n:=54) ?_ (zn.more (n:=55) ?_ (zn.more (n:=56) ?_ (zn.more (n:=57) ?_ (zn.more (n:=58) ?_ (zn.more (n:=59) ?_ (zn.more (n:=60) ?_ (zn.more (n:=61) ?_ (zn.more (n:=62) ?_ (zn.more (n:=63) ?_ (zn.more (n:=64) ?_ (zn.more (n:=65) ?_ (zn.more (n:=66) ?_ (zn.more (n:=67) ?_ (zn.more (n:=68) ?_ (zn.more (n:=69) ?_ (zn.more (n:=70) ?_ (zn.more (n:=71) ?_ (zn.more (n:=72) ?_ (zn.more (n:=73) ?_ (zn.more (n:=74) ?_ (zn.more (n:=75) ?_ (zn.more (n:=76) ?_ (zn.more (n:=77) ?_ (zn.more (n:=78) ?_ (zn.more (n:=79) ?_ (zn.more (n:=80) ?_ (zn.more (n:=81) ?_ (zn.more (n:=82) ?_ (zn.more (n:=83) ?_ (zn.more (n:=84) ?_ (zn.more (n:=85) ?_ (zn.more (n:=86) ?_ (zn.more (n:=87) ?_ (zn.more (n:=88) ?_ (zn.more (n:=89) ?_ zn.done))))))))))))))))))))))))))))))))))))))))))))))))))))))))))))))))))))))))))))))))))))))))))
  ·intro a w K hH he hd hk
   obtain⟨e6',e7',e3'⟩:=he' a he
   exact zh (zz a w _ _ _ _ _ _ _ e6') (hk _ _ (But.refl _ _) rfl)
  ·intro a w K hH he hd hk
   obtain⟨e6',e7',e3'⟩:=he' a he
   exact zh (zz a w _ _ _ _ _ _ _ e7') (hk _ _ (But.refl _ _) rfl)
  ·intro a w K hH he hd hk
   exact zh (j5 a w _ _ _ _ _ _ _ yb yo n yc ia hia hn2 (hd 0 _ rfl rfl) (hd 1 _ rfl rfl)) (hk _ _ (But.refl _ _) rfl)
  ·intro a w K hH he hd hk
   exact zh (zkw a w _ _ _ _ _ _ yb (yo+ia*10) (hd 0 _ rfl rfl)) (hk _ _ (But.refl _ _) rfl)
  ·intro a w K hH he hd hk
   exact zh (au a w _ _ _ _ _ _ yb (yo+ia*10+0) kd (hd 0 _ rfl rfl) ((hdr hH).zb y0c (by simp))) (hk _ _ (But.refl _ _) rfl)
  ·intro a w K hH he hd hk
   obtain⟨e6',e7',e3'⟩:=he' a he
   exact zh (zz a w _ _ _ _ _ _ _ e3') (hk _ _ (But.refl _ _) rfl)
  ·intro a w K hH he hd hk
   obtain⟨e6',e7',e3'⟩:=he' a he
   exact zh (zz a w _ _ _ _ _ _ _ e7') (hk _ _ (But.refl _ _) rfl)
  ·intro a w K hH he hd hk
   exact zh (j5 a w _ _ _ _ _ _ _ xb xo n xc ia hia hn2 (hd 0 _ rfl rfl) (hd 1 _ rfl rfl)) (hk _ _ (But.refl _ _) rfl)
  ·intro a w K hH he hd hk
   exact zh (zkw a w _ _ _ _ _ _ xb (xo+ia*10) (hd 0 _ rfl rfl)) (hk _ _ (But.refl _ _) rfl)
  ·intro a w K hH he hd hk
   exact zh (au a w _ _ _ _ _ _ xb (xo+ia*10+0) kd (hd 0 _ rfl rfl) ((hdr hH).zb x0c (by simp))) (hk _ _ (But.refl _ _) rfl)
  ·intro a w K hH he hd hk
   exact zh (zdd a w _ _ _ _ _ _ _ _ (hd 0 _ rfl rfl) (hd 1 _ rfl rfl)) (hk _ _ (But.refl _ _) rfl)
  ·intro a w K hH he hd hk
   exact zh (zz a w _ _ _ _ _ _ _ (hd 0 _ rfl rfl)) (hk _ _ (But.refl _ _) rfl)
  ·intro a w K hH he hd hk
   obtain⟨e6',e7',e3'⟩:=he' a he
   exact zh (zz a w _ _ _ _ _ _ _ e6') (hk _ _ (But.refl _ _) rfl)
  ·intro a w K hH he hd hk
   obtain⟨e6',e7',e3'⟩:=he' a he
   exact zh (zz a w _ _ _ _ _ _ _ e7') (hk _ _ (But.refl _ _) rfl)
  ·intro a w K hH he hd hk
   exact zh (j5 a w _ _ _ _ _ _ _ yb yo n yc ia hia hn2 (hd 0 _ rfl rfl) (hd 1 _ rfl rfl)) (hk _ _ (But.refl _ _) rfl)
  ·intro a w K hH he hd hk
   exact zh (zkv a w _ _ _ _ _ _ yb (yo+ia*10) (hd 0 _ rfl rfl)) (hk _ _ (But.refl _ _) rfl)
  ·intro a w K hH he hd hk
   exact zh (zsd a w _ _ _ _ _ _ yb (yo+ia*10+1) _ _ _ _ (hd 0 _ rfl rfl) ((hdr hH).zb y1c (by simp)) ((hdr hH).zb y2c (by simp)) ((hdr hH).zb y3c (by simp)) ((hdr hH).zb y4c (by simp))) (hk _ _ (But.refl _ _) rfl)
  ·intro a w K hH he hd hk
   obtain⟨e6',e7',e3'⟩:=he' a he
   exact zh (zz a w _ _ _ _ _ _ _ e3') (hk _ _ (But.refl _ _) rfl)
  ·intro a w K hH he hd hk
   obtain⟨e6',e7',e3'⟩:=he' a he
   exact zh (zz a w _ _ _ _ _ _ _ e7') (hk _ _ (But.refl _ _) rfl)
  ·intro a w K hH he hd hk
   exact zh (j5 a w _ _ _ _ _ _ _ xb xo n xc ia hia hn2 (hd 0 _ rfl rfl) (hd 1 _ rfl rfl)) (hk _ _ (But.refl _ _) rfl)
  ·intro a w K hH he hd hk
   exact zh (zkv a w _ _ _ _ _ _ xb (xo+ia*10) (hd 0 _ rfl rfl)) (hk _ _ (But.refl _ _) rfl)
  ·intro a w K hH he hd hk
   exact zh (zsd a w _ _ _ _ _ _ xb (xo+ia*10+1) _ _ _ _ (hd 0 _ rfl rfl) ((hdr hH).zb x1c (by simp)) ((hdr hH).zb x2c (by simp)) ((hdr hH).zb x3c (by simp)) ((hdr hH).zb x4c (by simp))) (hk _ _ (But.refl _ _) rfl)
  ·intro a w K hH he hd hk
   exact jd (zyu a w _ _ _ _ _ _ _ _ _ (hd 0 _ rfl rfl) (hd 1 _ rfl rfl)) (R:=fun w' v=>But [] w w'∧v=_) ((LK w (hdr hH)).mono fun e w' ⟨he,hb⟩=>⟨_,he,hb,rfl⟩) (fun v w' hv=>hk v w' hv.1 hv.2)
  ·intro a w K hH he hd hk
   exact zh (qbs a w _ _ _ _ _ _ (hd 0 _ rfl rfl)) (hk _ _ (But.refl _ _) rfl)
  ·intro a w K hH he hd hk
   exact zh (zaj a w _ _ _ _ _ _ _ (hd 0 _ rfl rfl) (hd 1 _ rfl rfl)) (hk _ _ (But.refl _ _) rfl)
  ·intro a w K hH he hd hk
   exact zh (zz a w _ _ _ _ _ _ _ (hd 0 _ rfl rfl)) (hk _ _ (But.refl _ _) rfl)
  ·intro a w K hH he hd hk
   obtain⟨e6',e7',e3'⟩:=he' a he
   exact zh (zz a w _ _ _ _ _ _ _ e6') (hk _ _ (But.refl _ _) rfl)
  ·intro a w K hH he hd hk
   obtain⟨e6',e7',e3'⟩:=he' a he
   exact zh (zz a w _ _ _ _ _ _ _ e7') (hk _ _ (But.refl _ _) rfl)
  ·intro a w K hH he hd hk
   exact zh (j5 a w _ _ _ _ _ _ _ yb yo n yc ia hia hn2 (hd 0 _ rfl rfl) (hd 1 _ rfl rfl)) (hk _ _ (But.refl _ _) rfl)
  ·intro a w K hH he hd hk
   exact zh (zku a w _ _ _ _ _ _ yb (yo+ia*10) (hd 0 _ rfl rfl)) (hk _ _ (But.refl _ _) rfl)
  ·intro a w K hH he hd hk
   exact zh (au a w _ _ _ _ _ _ yb (yo+ia*10+5) fr (hd 0 _ rfl rfl) ((hdr hH).zb y5c (by simp))) (hk _ _ (But.refl _ _) rfl)
  ·intro a w K hH he hd hk
   obtain⟨e6',e7',e3'⟩:=he' a he
   exact zh (zz a w _ _ _ _ _ _ _ e3') (hk _ _ (But.refl _ _) rfl)
  ·intro a w K hH he hd hk
   obtain⟨e6',e7',e3'⟩:=he' a he
   exact zh (zz a w _ _ _ _ _ _ _ e7') (hk _ _ (But.refl _ _) rfl)
  ·intro a w K hH he hd hk
   exact zh (j5 a w _ _ _ _ _ _ _ xb xo n xc ia hia hn2 (hd 0 _ rfl rfl) (hd 1 _ rfl rfl)) (hk _ _ (But.refl _ _) rfl)
  ·intro a w K hH he hd hk
   exact zh (zku a w _ _ _ _ _ _ xb (xo+ia*10) (hd 0 _ rfl rfl)) (hk _ _ (But.refl _ _) rfl)
  ·intro a w K hH he hd hk
   exact zh (au a w _ _ _ _ _ _ xb (xo+ia*10+5) fr (hd 0 _ rfl rfl) ((hdr hH).zb x5c (by simp))) (hk _ _ (But.refl _ _) rfl)
  ·intro a w K hH he hd hk
   exact zh (zdd a w _ _ _ _ _ _ _ _ (hd 0 _ rfl rfl) (hd 1 _ rfl rfl)) (hk _ _ (But.refl _ _) rfl)
  ·intro a w K hH he hd hk
   exact zh (zaj a w _ _ _ _ _ _ _ (hd 0 _ rfl rfl) (hd 1 _ rfl rfl)) (hk _ _ (But.refl _ _) rfl)
  ·intro a w K hH he hd hk
   exact zh (zz a w _ _ _ _ _ _ _ (hd 0 _ rfl rfl)) (hk _ _ (But.refl _ _) rfl)
  ·intro a w K hH he hd hk
   obtain⟨e6',e7',e3'⟩:=he' a he
   exact zh (zz a w _ _ _ _ _ _ _ e6') (hk _ _ (But.refl _ _) rfl)
  ·intro a w K hH he hd hk
   obtain⟨e6',e7',e3'⟩:=he' a he
   exact zh (zz a w _ _ _ _ _ _ _ e7') (hk _ _ (But.refl _ _) rfl)
  ·intro a w K hH he hd hk
   exact zh (j5 a w _ _ _ _ _ _ _ yb yo n yc ia hia hn2 (hd 0 _ rfl rfl) (hd 1 _ rfl rfl)) (hk _ _ (But.refl _ _) rfl)
  ·intro a w K hH he hd hk
   exact zh (zkt a w _ _ _ _ _ _ yb (yo+ia*10) (hd 0 _ rfl rfl)) (hk _ _ (But.refl _ _) rfl)
  ·intro a w K hH he hd hk
   exact zh (au a w _ _ _ _ _ _ yb (yo+ia*10+6) li (hd 0 _ rfl rfl) ((hdr hH).zb y6c (by simp))) (hk _ _ (But.refl _ _) rfl)
  ·intro a w K hH he hd hk
   obtain⟨e6',e7',e3'⟩:=he' a he
   exact zh (zz a w _ _ _ _ _ _ _ e3') (hk _ _ (But.refl _ _) rfl)
  ·intro a w K hH he hd hk
   obtain⟨e6',e7',e3'⟩:=he' a he
   exact zh (zz a w _ _ _ _ _ _ _ e7') (hk _ _ (But.refl _ _) rfl)
  ·intro a w K hH he hd hk
   exact zh (j5 a w _ _ _ _ _ _ _ xb xo n xc ia hia hn2 (hd 0 _ rfl rfl) (hd 1 _ rfl rfl)) (hk _ _ (But.refl _ _) rfl)
  ·intro a w K hH he hd hk
   exact zh (zkt a w _ _ _ _ _ _ xb (xo+ia*10) (hd 0 _ rfl rfl)) (hk _ _ (But.refl _ _) rfl)
  ·intro a w K hH he hd hk
   exact zh (au a w _ _ _ _ _ _ xb (xo+ia*10+6) li (hd 0 _ rfl rfl) ((hdr hH).zb x6c (by simp))) (hk _ _ (But.refl _ _) rfl)
  ·intro a w K hH he hd hk
   exact zh (zdd a w _ _ _ _ _ _ _ _ (hd 0 _ rfl rfl) (hd 1 _ rfl rfl)) (hk _ _ (But.refl _ _) rfl)
  ·intro a w K hH he hd hk
   exact zh (zaj a w _ _ _ _ _ _ _ (hd 0 _ rfl rfl) (hd 1 _ rfl rfl)) (hk _ _ (But.refl _ _) rfl)
  ·intro a w K hH he hd hk
   exact zh (zz a w _ _ _ _ _ _ _ (hd 0 _ rfl rfl)) (hk _ _ (But.refl _ _) rfl)
  ·intro a w K hH he hd hk
   obtain⟨e6',e7',e3'⟩:=he' a he
   exact zh (zz a w _ _ _ _ _ _ _ e6') (hk _ _ (But.refl _ _) rfl)
  ·intro a w K hH he hd hk
   obtain⟨e6',e7',e3'⟩:=he' a he
   exact zh (zz a w _ _ _ _ _ _ _ e7') (hk _ _ (But.refl _ _) rfl)
  ·intro a w K hH he hd hk
   exact zh (j5 a w _ _ _ _ _ _ _ yb yo n yc ia hia hn2 (hd 0 _ rfl rfl) (hd 1 _ rfl rfl)) (hk _ _ (But.refl _ _) rfl)
  ·intro a w K hH he hd hk
   exact zh (zks a w _ _ _ _ _ _ yb (yo+ia*10) (hd 0 _ rfl rfl)) (hk _ _ (But.refl _ _) rfl)
  ·intro a w K hH he hd hk
   exact zh (au a w _ _ _ _ _ _ yb (yo+ia*10+7) ti (hd 0 _ rfl rfl) ((hdr hH).zb y7c (by simp))) (hk _ _ (But.refl _ _) rfl)
  ·intro a w K hH he hd hk
   obtain⟨e6',e7',e3'⟩:=he' a he
   exact zh (zz a w _ _ _ _ _ _ _ e3') (hk _ _ (But.refl _ _) rfl)
  ·intro a w K hH he hd hk
   obtain⟨e6',e7',e3'⟩:=he' a he
   exact zh (zz a w _ _ _ _ _ _ _ e7') (hk _ _ (But.refl _ _) rfl)
  ·intro a w K hH he hd hk
   exact zh (j5 a w _ _ _ _ _ _ _ xb xo n xc ia hia hn2 (hd 0 _ rfl rfl) (hd 1 _ rfl rfl)) (hk _ _ (But.refl _ _) rfl)
  ·intro a w K hH he hd hk
   exact zh (zks a w _ _ _ _ _ _ xb (xo+ia*10) (hd 0 _ rfl rfl)) (hk _ _ (But.refl _ _) rfl)
  ·intro a w K hH he hd hk
   exact zh (au a w _ _ _ _ _ _ xb (xo+ia*10+7) ti (hd 0 _ rfl rfl) ((hdr hH).zb x7c (by simp))) (hk _ _ (But.refl _ _) rfl)
  ·intro a w K hH he hd hk
   exact zh (zdd a w _ _ _ _ _ _ _ _ (hd 0 _ rfl rfl) (hd 1 _ rfl rfl)) (hk _ _ (But.refl _ _) rfl)
  ·intro a w K hH he hd hk
   exact zh (zaj a w _ _ _ _ _ _ _ (hd 0 _ rfl rfl) (hd 1 _ rfl rfl)) (hk _ _ (But.refl _ _) rfl)
  ·intro a w K hH he hd hk
   exact zh (zz a w _ _ _ _ _ _ _ (hd 0 _ rfl rfl)) (hk _ _ (But.refl _ _) rfl)
  ·intro a w K hH he hd hk
   obtain⟨e6',e7',e3'⟩:=he' a he
   exact zh (zz a w _ _ _ _ _ _ _ e6') (hk _ _ (But.refl _ _) rfl)
  ·intro a w K hH he hd hk
   obtain⟨e6',e7',e3'⟩:=he' a he
   exact zh (zz a w _ _ _ _ _ _ _ e7') (hk _ _ (But.refl _ _) rfl)
  ·intro a w K hH he hd hk
   exact zh (j5 a w _ _ _ _ _ _ _ yb yo n yc ia hia hn2 (hd 0 _ rfl rfl) (hd 1 _ rfl rfl)) (hk _ _ (But.refl _ _) rfl)
  ·intro a w K hH he hd hk
   exact zh (zkr a w _ _ _ _ _ _ yb (yo+ia*10) (hd 0 _ rfl rfl)) (hk _ _ (But.refl _ _) rfl)
  ·intro a w K hH he hd hk
   exact zh (au a w _ _ _ _ _ _ yb (yo+ia*10+8) pr (hd 0 _ rfl rfl) ((hdr hH).zb y8c (by simp))) (hk _ _ (But.refl _ _) rfl)
  ·intro a w K hH he hd hk
   obtain⟨e6',e7',e3'⟩:=he' a he
   exact zh (zz a w _ _ _ _ _ _ _ e3') (hk _ _ (But.refl _ _) rfl)
  ·intro a w K hH he hd hk
   obtain⟨e6',e7',e3'⟩:=he' a he
   exact zh (zz a w _ _ _ _ _ _ _ e7') (hk _ _ (But.refl _ _) rfl)
  ·intro a w K hH he hd hk
   exact zh (j5 a w _ _ _ _ _ _ _ xb xo n xc ia hia hn2 (hd 0 _ rfl rfl) (hd 1 _ rfl rfl)) (hk _ _ (But.refl _ _) rfl)
  ·intro a w K hH he hd hk
   exact zh (zkr a w _ _ _ _ _ _ xb (xo+ia*10) (hd 0 _ rfl rfl)) (hk _ _ (But.refl _ _) rfl)
  ·intro a w K hH he hd hk
   exact zh (au a w _ _ _ _ _ _ xb (xo+ia*10+8) pr (hd 0 _ rfl rfl) ((hdr hH).zb x8c (by simp))) (hk _ _ (But.refl _ _) rfl)
  ·intro a w K hH he hd hk
   exact zh (zdd a w _ _ _ _ _ _ _ _ (hd 0 _ rfl rfl) (hd 1 _ rfl rfl)) (hk _ _ (But.refl _ _) rfl)
  ·intro a w K hH he hd hk
   exact zh (zaj a w _ _ _ _ _ _ _ (hd 0 _ rfl rfl) (hd 1 _ rfl rfl)) (hk _ _ (But.refl _ _) rfl)
  ·intro a w K hH he hd hk
   exact zh (zz a w _ _ _ _ _ _ _ (hd 0 _ rfl rfl)) (hk _ _ (But.refl _ _) rfl)
  ·intro a w K hH he hd hk
   obtain⟨e6',e7',e3'⟩:=he' a he
   exact zh (zz a w _ _ _ _ _ _ _ e6') (hk _ _ (But.refl _ _) rfl)
  ·intro a w K hH he hd hk
   obtain⟨e6',e7',e3'⟩:=he' a he
   exact zh (zz a w _ _ _ _ _ _ _ e7') (hk _ _ (But.refl _ _) rfl)
  ·intro a w K hH he hd hk
   exact zh (j5 a w _ _ _ _ _ _ _ yb yo n yc ia hia hn2 (hd 0 _ rfl rfl) (hd 1 _ rfl rfl)) (hk _ _ (But.refl _ _) rfl)
  ·intro a w K hH he hd hk
   exact zh (zkq a w _ _ _ _ _ _ yb (yo+ia*10) (hd 0 _ rfl rfl)) (hk _ _ (But.refl _ _) rfl)
  ·intro a w K hH he hd hk
   exact zh (zsb a w _ _ _ _ _ _ yb (yo+ia*10+9) nm (hd 0 _ rfl rfl) ((hdr hH).zb y9c (by simp))) (hk _ _ (But.refl _ _) rfl)
  ·intro a w K hH he hd hk
   obtain⟨e6',e7',e3'⟩:=he' a he
   exact zh (zz a w _ _ _ _ _ _ _ e3') (hk _ _ (But.refl _ _) rfl)
  ·intro a w K hH he hd hk
   obtain⟨e6',e7',e3'⟩:=he' a he
   exact zh (zz a w _ _ _ _ _ _ _ e7') (hk _ _ (But.refl _ _) rfl)
  ·intro a w K hH he hd hk
   exact zh (j5 a w _ _ _ _ _ _ _ xb xo n xc ia hia hn2 (hd 0 _ rfl rfl) (hd 1 _ rfl rfl)) (hk _ _ (But.refl _ _) rfl)
  ·intro a w K hH he hd hk
   exact zh (zkq a w _ _ _ _ _ _ xb (xo+ia*10) (hd 0 _ rfl rfl)) (hk _ _ (But.refl _ _) rfl)
  ·intro a w K hH he hd hk
   exact zh (zsb a w _ _ _ _ _ _ xb (xo+ia*10+9) nm (hd 0 _ rfl rfl) ((hdr hH).zb x9c (by simp))) (hk _ _ (But.refl _ _) rfl)
  ·intro a w K hH he hd hk
   exact zh (zyp a w _ _ _ _ _ _ _ _ (hd 0 _ rfl rfl) (hd 1 _ rfl rfl)) (hk _ _ (But.refl _ _) rfl)
  ·intro a w K hH he hd hk
   exact zh (zaj a w _ _ _ _ _ _ _ (hd 0 _ rfl rfl) (hd 1 _ rfl rfl)) (hk _ _ (But.refl _ _) rfl)
 ·intro w hb
  exact hQ (qjk yb yo yc xb xo xc n ia kd fr li ti pr nm s1 x1 y1 p1 s2 x2 y2 p2) w (hdr hb)
end Go.Proofs.YtcgecpoedojhjaaGreatDoor
