/- The reference's numbers, in one form.  -/
import Derived.Test.YtagmkkiagjmimaaGreatDoorProg
import Derived.LaidEql
import Derived.Stop.Asserts
import Derived.RowKitTokens
import Derived.Test.YtagmkkiagjmimaaGreatDoorYF11
import Derived.Test.YtagmkkiagjmimaaGreatDoorYHG
import Derived.Test.YtagmkkiagjmimaaGreatDoorYRP
namespace Go.Proofs.YtagmkkiagjmimaaGreatDoor
open Go.Proofs.Tryz
open Go.RowKit
set_option maxHeartbeats 8000000
set_option maxRecDepth 100000
set_option linter.unusedVariables false
theorem ui (z:Int) (w:World) (h1:-9223372036854775808≤z) (h2:z<9223372036854775808) :
  Calls prog 19 #[.int .i64 z] w fun e w'=>∃ zb,e=.returned (.pointer (some ⟨zb,0,none⟩))∧ze w' zb (((z:Int):Rat))∧But [] w w':=by
 obtain⟨i1,i2⟩:=bk z
 exact (zvn z w h1 h2).mono fun e w' ⟨zb,he,hb,hr⟩=>⟨zb,he,by unfold ze;rw[i1,i2];exact hr,hb⟩
theorem zfy (xb yb:Nat) (f g:Rat) (w:World) (hx:ze w xb f) (hy:ze w yb g) (lf:zu f 2000000) (lg:zu g 2000000) :
  Calls prog 82 #[.pointer (some ⟨xb,0,none⟩),.pointer (some ⟨yb,0,none⟩)] w fun e w'=>∃ zb,e=.returned (.pointer (some ⟨zb,0,none⟩))∧ze w' zb (f+g)∧But [] w w' :=
 (zvo xb yb f g w hx hy lf lg).mono fun e w' ⟨zb,he,hb,hr,_⟩=>⟨zb,he,hr,hb⟩
theorem zxq (xb yb:Nat) (f g:Rat) (w:World) (hx:ze w xb f) (hy:ze w yb g) (lf:zu f 2000000) (lg:zu g 2000000) :
  Calls prog 71 #[.pointer (some ⟨xb,0,none⟩),.pointer (some ⟨yb,0,none⟩)] w fun e w'=>∃ zb,e=.returned (.pointer (some ⟨zb,0,none⟩))∧ze w' zb (f-g)∧But [] w w' :=
 (zvk xb yb f g w hx hy lf lg).mono fun e w' ⟨zb,he,hb,hr,_⟩=>⟨zb,he,hr,hb⟩
theorem zlj (xb yb:Nat) (f g:Rat) (w:World) (hx:ze w xb f) (hy:ze w yb g) (lf:zu f 2000000) (lg:zu g 2000000) :
  Calls prog 28 #[.pointer (some ⟨xb,0,none⟩),.pointer (some ⟨yb,0,none⟩)] w fun e w'=>∃ zb,e=.returned (.pointer (some ⟨zb,0,none⟩))∧ze w' zb (f*g)∧But [] w w' :=
 (zvl xb yb f g w hx hy lf lg).mono fun e w' ⟨zb,he,hb,hr,_⟩=>⟨zb,he,hr,hb⟩
theorem qhn (xb yb:Nat) (f g q:Rat) (w:World) (hx:ze w xb f) (hy:ze w yb g) (lf:zu f 2000000) (lg:zu g 2000000) (hg0:g.num≠0) (hq:q*g=f) :
  Calls prog 26 #[.pointer (some ⟨xb,0,none⟩),.pointer (some ⟨yb,0,none⟩)] w fun e w'=>∃ zb,e=.returned (.pointer (some ⟨zb,0,none⟩))∧ze w' zb (q)∧But [] w w' :=
 (zsk xb yb f g q w hx hy lf lg hg0 hq).mono fun e w' ⟨zb,he,hb,hr,_⟩=>⟨zb,he,hr,hb⟩
theorem qln (o u:Int) (f:Rat) (w:World) (ho1:-9223372036854775808≤o) (ho2:o<9223372036854775808) (hu1:-9223372036854775808≤u) (hu2:u<9223372036854775808) (hf:f.num*(if u=0 then 1 else u)=o*(f.den:Int)) :
  Calls prog 14 #[.agg #[.int .i64 o,.int .i64 u]] w fun e w'=>∃ zb,e=.returned (.pointer (some ⟨zb,0,none⟩))∧ze w' zb (f)∧But [] w w' :=
 (zon o u f w ho1 ho2 hu1 hu2 hf).mono fun e w' ⟨zb,he,hb,hr,_⟩=>⟨zb,he,hr,hb⟩
theorem zmh (b:Nat) (f:Rat) (w:World) (h:ze w b f) (s:Int) (hs:s=f.num.sign) (hl:zu f 2000000) :
  Calls prog 44 #[.pointer (some ⟨b,0,none⟩)] w fun e w'=>e=.returned (.int .i64 s)∧But [] w w' :=
 (zkb b f.num (f.den:Int) w h s hs (by have:=hl.1;omega)).mono fun e w' ⟨he,hw⟩=>⟨he,by rw[hw];exact But.refl _ _⟩
theorem zu.int {z:Int} (h:z.natAbs<18446744073709551616):zu ((z:Int):Rat) 2:=by
 obtain⟨i1,i2⟩:=bk z
 exact⟨by rw[i1];exact dm _ h,by rw[i2];exact dm _ (by omega)⟩
open Go.RowKit Go.Extern.Stop Go.Stop Go.Extern
theorem qbs (t:Addr) (w:World):(ReflectliteValue.unpack (.iface 101 (.pointer (some t)))).run prog w
  = .ok (.agg #[.pointer (some ⟨7,101,none⟩),.pointer (some ⟨w.heap.size,0,none⟩),.int .u64 150]) (w.alloc (.cells #[.pointer (some t)] 101)):=by kernel_rfl
theorem qmg (a:Addr) (w:World):(ReflectliteValue.methodAny (ReflectliteValue.valueError "reflectlite.Value.Type" 0) (fun t _ _ _=>ReflectliteType.toType t) #[.agg #[.pointer (some ⟨7,101,none⟩),.pointer (some a),.int .u64 150]]).run prog w
  = .ok (.iface 219 (.agg #[.pointer (some ⟨7,101,none⟩)])) w:=by kernel_rfl
theorem qmo (w:World):((ReflectliteType.abiMethod fun t=>(fun a:Nat=>Value.int IntKind.u8 (a:Int)) <$> Rtype.kind t) #[.pointer (some ⟨7,101,none⟩)]).run prog w=.ok (.int .u8 22) w:=by kernel_rfl
theorem qmp (w:World):((ReflectliteType.abiMethod fun t=>(fun a:Nat=>Value.int IntKind.u8 (a:Int)) <$> Rtype.kind t) #[.pointer (some ⟨7,33,none⟩)]).run prog w=.ok (.int .u8 2) w:=by kernel_rfl
theorem qbt (n:Int) (w:World):(ReflectliteValue.unpack (.iface 33 (.int .i64 n))).run prog w
  = .ok (.agg #[.pointer (some ⟨7,33,none⟩),.pointer (some ⟨w.heap.size,0,none⟩),.int .u64 130]) (w.alloc (.cells #[.int .i64 n] 33)):=by kernel_rfl
theorem zvu (h:Value) (w:World):(Go.method 426 219 (.agg #[h]) "Kind").run prog w=.ok (289,h) w:=by kernel_rfl
theorem zvv (h:Value) (w:World):(Go.method 426 219 (.agg #[h]) "Elem").run prog w=.ok (301,.agg #[h]) w:=by kernel_rfl
theorem zjg (h:Value) (w:World):(Go.method 426 219 (.agg #[h]) "Implements").run prog w=.ok (302,.agg #[h]) w:=by kernel_rfl
theorem zgq (h:Value) (w:World):(Go.method 426 219 (.agg #[h]) "AssignableTo").run prog w=.ok (299,.agg #[h]) w:=by kernel_rfl
theorem rlm (z:Sem Value) (f:TypeId→Addr→Nat→Nat→Sem Value) (v:Value) :
  ReflectliteValue.method z f #[v]=(do match ← ReflectliteValue.parts v with | none=>z | some (t,a,fl)=>f t a fl (fl%32)):=rfl
theorem qda (a:Addr) (w:World):(ReflectliteValue.parts (.agg #[.pointer (some ⟨7,101,none⟩),.pointer (some a),.int .u64 150])).run prog w=.ok (some (101,a,150)) w:=by kernel_rfl
theorem qlx (a p:Addr) (W:World) (ha:W.cell? a=some (.pointer (some p))) :
   (ReflectliteValue.method (ReflectliteValue.valueError "reflectlite.Value.IsNil" 0) ReflectliteValue.isNil #[.agg #[.pointer (some ⟨7,101,none⟩),.pointer (some a),.int .u64 150]]).run prog W=.ok (.bool false) W:=by(
 rw[rlm]
 simp only[Sem.run_bind,qda,Result.andThen]
 simp[ReflectliteValue.isNil,loadVar,isAgg,underlying,underlying101,ha,Result.andThen])
theorem qmq (w:World):(ReflectliteType.method ReflectliteType.elem #[.agg #[.pointer (some ⟨7,101,none⟩)]]).run prog w=.ok (.iface 219 (.agg #[.pointer (some ⟨7,33,none⟩)])) w:=by kernel_rfl
theorem zts (w:World):(ReflectliteType.relation "Implements" ReflectliteType.implements_ #[.agg #[.pointer (some ⟨7,33,none⟩)],.iface 219 (.agg #[.pointer (some ⟨7,29,none⟩)])]).run prog w=.ok (.bool true) w:=by kernel_rfl
theorem qhb (v:Value) (w:World):(ReflectliteType.typeOf #[.iface 33 v]).run prog w=.ok (.iface 219 (.agg #[.pointer (some ⟨7,33,none⟩)])) w:=by kernel_rfl
theorem zuk (w:World):(ReflectliteType.relation "AssignableTo" ReflectliteType.assignableTo #[.agg #[.pointer (some ⟨7,33,none⟩)],.iface 219 (.agg #[.pointer (some ⟨7,33,none⟩)])]).run prog w=.ok (.bool true) w:=by kernel_rfl
theorem qib (w:World):(Rtype.elem? 101).run prog w=.ok (some 33) w:=by kernel_rfl
theorem mkE (p:Addr) (w:World):(ReflectliteValue.mk 33 p ReflectliteValue.flagAddr).run prog w=.ok (.agg #[.pointer (some ⟨7,33,none⟩),.pointer (some p),.int .u64 386]) w:=by kernel_rfl
theorem qlz (a p:Addr) (W:World) (ha:W.cell? a=some (.pointer (some p))) :
   (ReflectliteValue.method (ReflectliteValue.valueError "reflectlite.Value.Elem" 0) ReflectliteValue.elem #[.agg #[.pointer (some ⟨7,101,none⟩),.pointer (some a),.int .u64 150]]).run prog W
    = .ok (.agg #[.pointer (some ⟨7,33,none⟩),.pointer (some p),.int .u64 386]) W:=by(
 rw[rlm]
 simp only[Sem.run_bind,qda,Result.andThen]
 simp[ReflectliteValue.elem,loadVar,isAgg,underlying,underlying101,ha,Result.andThen,qib,mkE])
theorem rls (v x:Value):ReflectliteValue.set #[v,x]=(do
  let (some (dst,a,fl),some (src,b,_)):=(← ReflectliteValue.parts v,← ReflectliteValue.parts x)
   | unsupported (.noEntry "extern/(internal/reflectlite.Value).Set.zeroValue")
  if fl/ReflectliteValue.flagAddr%2==0 then unsupported (.noEntry "extern/(internal/reflectlite.Value).Set.unaddressable")
  let val ← loadVar src b
  if ← Rtype.directlyAssignable dst src then storeVar dst a val
  else if ← Rtype.implements dst src then
   if (← Rtype.kind src)==20 then
    match val with
    | .nilIface=>unsupported (.noEntry "extern/reflectlite: a nil value of one interface type handed on as a value of another")
    | _=>storeVar dst a val
   else storeVar dst a (.iface src val)
  else panicString ("reflectlite.Set: value of type "++(← Rtype.spelt src)++ " is not assignable to type "++(← Rtype.spelt dst))
  pure (.tuple #[])):=rfl
theorem qhs (a:Addr) (w:World):(ReflectliteValue.parts (.agg #[.pointer (some ⟨7,33,none⟩),.pointer (some a),.int .u64 386])).run prog w=.ok (some (33,a,386)) w:=by kernel_rfl
theorem qlr (a:Addr) (w:World):(ReflectliteValue.parts (.agg #[.pointer (some ⟨7,33,none⟩),.pointer (some a),.int .u64 130])).run prog w=.ok (some (33,a,130)) w:=by kernel_rfl
theorem qic (w:World):(Rtype.directlyAssignable 33 33).run prog w=.ok true w:=by kernel_rfl
theorem qmu (ta b:Addr) (n:Int) (old:Value) (W:World) (hb:W.cell? b=some (.int .i64 n)) (ht:W.cell? ta=some old) (hf:W.frozen? ta=false) :
   (ReflectliteValue.set #[.agg #[.pointer (some ⟨7,33,none⟩),.pointer (some ta),.int .u64 386],.agg #[.pointer (some ⟨7,33,none⟩),.pointer (some b),.int .u64 130]]).run prog W
    = .ok (.tuple #[]) (W.setCell ta (.int .i64 n)):=by(
 rw[rls]
 simp only[Sem.run_bind,qhs,qlr,Result.andThen]
 simp[ReflectliteValue.flagAddr,loadVar,isAgg,underlying,underlying33,hb,Result.andThen,qic,storeVar,Value.cells,storeCells,Addr.add]
 rw[run_store prog W ta _ _ (by rfl)]
 simp[ht,hf])
theorem zbu (n:Int) (w:World) (hg:w.cell? ⟨0,0,none⟩=some (.iface 219 (.agg #[.pointer (some ⟨7,29,none⟩)]))) :
   Calls prog 10 #[.iface 33 (.int .i64 n)] w fun e w'=>e=.returned (.int .i64 n)∧But [] w w':=by(
 have h22:=@run_callFunc_extern prog 135 _ (fun args=>ReflectliteValue.unpack (args.getD 0 (.tuple #[]))) func135 (by kernel_rfl) (by kernel_rfl) (by kernel_rfl) (by kernel_rfl)
 have h23:=@run_callFunc_extern prog 136 _ (ReflectliteValue.methodAny (ReflectliteValue.valueError "reflectlite.Value.Type" 0) (fun t _ _ _=>ReflectliteType.toType t)) func136 (by kernel_rfl) (by kernel_rfl) (by kernel_rfl) (by kernel_rfl)
 have h24:=@run_callFunc_extern prog 137 _ (ReflectliteValue.method (ReflectliteValue.valueError "reflectlite.Value.IsNil" 0) ReflectliteValue.isNil) func137 (by kernel_rfl) (by kernel_rfl) (by kernel_rfl) (by kernel_rfl)
 have h128:=@run_callFunc_extern prog 289 _ (ReflectliteType.abiMethod fun t=>do pure (.int .u8 (← Rtype.kind t))) func289 (by kernel_rfl) (by kernel_rfl) (by kernel_rfl) (by kernel_rfl)
 have h141:=@run_callFunc_extern prog 301 _ (ReflectliteType.method ReflectliteType.elem) func301 (by kernel_rfl) (by kernel_rfl) (by kernel_rfl) (by kernel_rfl)
 have h142:=@run_callFunc_extern prog 302 _ (ReflectliteType.relation "Implements" ReflectliteType.implements_) func302 (by kernel_rfl) (by kernel_rfl) (by kernel_rfl) (by kernel_rfl)
 have h40:=@run_callFunc_extern prog 184 _ ReflectliteType.typeOf func184 (by kernel_rfl) (by kernel_rfl) (by kernel_rfl) (by kernel_rfl)
 have h139:=@run_callFunc_extern prog 299 _ (ReflectliteType.relation "AssignableTo" ReflectliteType.assignableTo) func299 (by kernel_rfl) (by kernel_rfl) (by kernel_rfl) (by kernel_rfl)
 have h41:=@run_callFunc_extern prog 185 _ (ReflectliteValue.method (ReflectliteValue.valueError "reflectlite.Value.Elem" 0) ReflectliteValue.elem) func185 (by kernel_rfl) (by kernel_rfl) (by kernel_rfl) (by kernel_rfl)
 have h42:=@run_callFunc_extern prog 186 _ ReflectliteValue.set func186 (by kernel_rfl) (by kernel_rfl) (by kernel_rfl) (by kernel_rfl)
 have tO:=qhb
 have mA:=zgq
 have aE:=zuk
 have vE:=qbt
 have vT:=qbs
 have tT:=qmg
 have mK:=zvu
 have mE:=zvv
 have mI:=zjg
 have kT:=qmo
 have kE:=qmp
 have eT:=qmq
 have iE:=zts
 have nT:=qlx
 have eV:=qlz
 have st:=qmu ⟨w.heap.size,0,none⟩ ⟨w.heap.size+1+1+1+1,0,none⟩ n (.int .i64 0) (((((w.alloc (.cells #[.int .i64 0] 33)).alloc (.cells #[.pointer (some ⟨w.heap.size,0,none⟩)] 101)).alloc (.cells #[.pointer (some ⟨7,101,none⟩),.pointer (some ⟨w.heap.size+1,0,none⟩),.int .u64 150] 169)).alloc (.cells #[.pointer (some ⟨7,101,none⟩),.pointer (some ⟨w.heap.size+1,0,none⟩),.int .u64 150] 169)).alloc (.cells #[.int .i64 n] 33))
  (by rw[World.cell?_alloc_at _ _ _ _ (by simp)];rfl)
  (by rw[World.cell?_alloc_lt _ _ _ (by simp;omega),World.cell?_alloc_lt _ _ _ (by simp;omega),World.cell?_alloc_lt _ _ _ (by simp;omega),World.cell?_alloc_lt _ _ _ (by simp),World.cell?_alloc_new];rfl)
  (by rw[World.frozen?_alloc_old _ _ _ (by simp;omega),World.frozen?_alloc_old _ _ _ (by simp;omega),World.frozen?_alloc_old _ _ _ (by simp;omega),World.frozen?_alloc_old _ _ _ (by simp),World.frozen?_alloc_new])
 have hlt : 0 < w.heap.size:=ai hg
 have hg3:∀ o1 o2 o3,(((w.alloc o1).alloc o2).alloc o3).cell? ⟨0,0,none⟩=some (.iface 219 (.agg #[.pointer (some ⟨7,29,none⟩)])):=fun o1 o2 o3=>by
  rw[World.cell?_alloc_lt _ _ ⟨0,0,none⟩ (by first | (simp;done) | (simp;omega)),World.cell?_alloc_lt _ _ ⟨0,0,none⟩ (by first | (simp;done) | (simp;omega)),World.cell?_alloc_lt _ _ ⟨0,0,none⟩ hlt];exact hg
 go_enter func10,ntmps10
 go_wp2
 refine wp_loop_rounds 1 ?_
 rw[rounds_succ]
 go_wp2
 go_ret
 refine⟨rfl,?_⟩
 repeat (first | exact But.refl _ _ | refine But.alloc ?_ _ | refine But.drew ?_ | refine But.setCell ?_ (.inr (by simp)) _))
theorem zef (x y:Rat) (r:Int) (hr:r=zbk (x.num*(y.den:Int)) (y.num*(x.den:Int))):(r<0↔x<y)∧(0<r↔y<x)∧(r=0↔x=y):=by(
 have h1:x<y↔x.num*(y.den:Int)<y.num*(x.den:Int):=Rat.lt_iff x y
 have h2:y<x↔y.num*(x.den:Int)<x.num*(y.den:Int):=Rat.lt_iff y x
 have h3:x=y↔x.num*(y.den:Int)=y.num*(x.den:Int):=by
  constructor
  ·intro h;rw[h]
  ·intro h
   exact Rat.le_antisymm ((Rat.le_iff _ _).2 (by omega)) ((Rat.le_iff _ _).2 (by omega))
 rw[h1,h2,h3,hr]
 unfold zbk
 split
 ·omega
 ·split <;> omega)
end Go.Proofs.YtagmkkiagjmimaaGreatDoor
