/- errors.As at an Errno, and api.Tell, by  -/
import Derived.Test.YtpmjeclpkahkmaaGreatDoorProg
import Derived.LaidEql
import Derived.Stop.Asserts
import Derived.RowKitTokens
import Derived.Test.YtpmjeclpkahkmaaGreatDoorVBase
namespace Go.Proofs.YtpmjeclpkahkmaaGreatDoor
set_option linter.unusedVariables false
open Go.Proofs.Tryz
open Go.RowKit Go.Extern.Stop Go.Stop Go.Extern
set_option maxHeartbeats 8000000
set_option maxRecDepth 100000
theorem qcr (t:Addr) (w:World):(ReflectliteValue.unpack (.iface 129 (.pointer (some t)))).run prog w
  = .ok (.agg #[.pointer (some ⟨10,129,none⟩),.pointer (some ⟨w.heap.size,0,none⟩),.int .u64 150]) (w.alloc (.cells #[.pointer (some t)] 129)):=by kernel_rfl
theorem qne (a:Addr) (w:World):(ReflectliteValue.methodAny (ReflectliteValue.valueError "reflectlite.Value.Type" 0) (fun t _ _ _=>ReflectliteType.toType t) #[.agg #[.pointer (some ⟨10,129,none⟩),.pointer (some a),.int .u64 150]]).run prog w
  = .ok (.iface 282 (.agg #[.pointer (some ⟨10,129,none⟩)])) w:=by kernel_rfl
theorem qnm (w:World):((ReflectliteType.abiMethod fun t=>(fun a:Nat=>Value.int IntKind.u8 (a:Int)) <$> Rtype.kind t) #[.pointer (some ⟨10,129,none⟩)]).run prog w=.ok (.int .u8 22) w:=by kernel_rfl
theorem qnn (w:World):((ReflectliteType.abiMethod fun t=>(fun a:Nat=>Value.int IntKind.u8 (a:Int)) <$> Rtype.kind t) #[.pointer (some ⟨10,33,none⟩)]).run prog w=.ok (.int .u8 2) w:=by kernel_rfl
theorem qcs (n:Int) (w:World):(ReflectliteValue.unpack (.iface 33 (.int .i64 n))).run prog w
  = .ok (.agg #[.pointer (some ⟨10,33,none⟩),.pointer (some ⟨w.heap.size,0,none⟩),.int .u64 130]) (w.alloc (.cells #[.int .i64 n] 33)):=by kernel_rfl
theorem zwn (h:Value) (w:World):(Go.method 514 282 (.agg #[h]) "Kind").run prog w=.ok (356,h) w:=by kernel_rfl
theorem zwo (h:Value) (w:World):(Go.method 514 282 (.agg #[h]) "Elem").run prog w=.ok (369,.agg #[h]) w:=by kernel_rfl
theorem zjy (h:Value) (w:World):(Go.method 514 282 (.agg #[h]) "Implements").run prog w=.ok (370,.agg #[h]) w:=by kernel_rfl
theorem zhh (h:Value) (w:World):(Go.method 514 282 (.agg #[h]) "AssignableTo").run prog w=.ok (367,.agg #[h]) w:=by kernel_rfl
theorem rlm (z:Sem Value) (f:TypeId→Addr→Nat→Nat→Sem Value) (v:Value) :
  ReflectliteValue.method z f #[v]=(do match ← ReflectliteValue.parts v with | none=>z | some (t,a,fl)=>f t a fl (fl%32)):=rfl
theorem qeg (a:Addr) (w:World):(ReflectliteValue.parts (.agg #[.pointer (some ⟨10,129,none⟩),.pointer (some a),.int .u64 150])).run prog w=.ok (some (129,a,150)) w:=by kernel_rfl
theorem qmu (a p:Addr) (W:World) (ha:W.cell? a=some (.pointer (some p))) :
  (ReflectliteValue.method (ReflectliteValue.valueError "reflectlite.Value.IsNil" 0) ReflectliteValue.isNil #[.agg #[.pointer (some ⟨10,129,none⟩),.pointer (some a),.int .u64 150]]).run prog W=.ok (.bool false) W:=by(
rw[rlm]
simp only[Sem.run_bind,qeg,Result.andThen]
simp[ReflectliteValue.isNil,loadVar,isAgg,underlying,underlying129,ha,Result.andThen])
theorem qno (w:World):(ReflectliteType.method ReflectliteType.elem #[.agg #[.pointer (some ⟨10,129,none⟩)]]).run prog w=.ok (.iface 282 (.agg #[.pointer (some ⟨10,33,none⟩)])) w:=by kernel_rfl
theorem zuj (w:World):(ReflectliteType.relation "Implements" ReflectliteType.implements_ #[.agg #[.pointer (some ⟨10,33,none⟩)],.iface 282 (.agg #[.pointer (some ⟨10,29,none⟩)])]).run prog w=.ok (.bool true) w:=by kernel_rfl
theorem qhw (v:Value) (w:World):(ReflectliteType.typeOf #[.iface 33 v]).run prog w=.ok (.iface 282 (.agg #[.pointer (some ⟨10,33,none⟩)])) w:=by kernel_rfl
theorem zvd (w:World):(ReflectliteType.relation "AssignableTo" ReflectliteType.assignableTo #[.agg #[.pointer (some ⟨10,33,none⟩)],.iface 282 (.agg #[.pointer (some ⟨10,33,none⟩)])]).run prog w=.ok (.bool true) w:=by kernel_rfl
theorem qjd (w:World):(Rtype.elem? 129).run prog w=.ok (some 33) w:=by kernel_rfl
theorem mkE (p:Addr) (w:World):(ReflectliteValue.mk 33 p ReflectliteValue.flagAddr).run prog w=.ok (.agg #[.pointer (some ⟨10,33,none⟩),.pointer (some p),.int .u64 386]) w:=by kernel_rfl
theorem qmx (a p:Addr) (W:World) (ha:W.cell? a=some (.pointer (some p))) :
  (ReflectliteValue.method (ReflectliteValue.valueError "reflectlite.Value.Elem" 0) ReflectliteValue.elem #[.agg #[.pointer (some ⟨10,129,none⟩),.pointer (some a),.int .u64 150]]).run prog W
   = .ok (.agg #[.pointer (some ⟨10,33,none⟩),.pointer (some p),.int .u64 386]) W:=by(
rw[rlm]
simp only[Sem.run_bind,qeg,Result.andThen]
simp[ReflectliteValue.elem,loadVar,isAgg,underlying,underlying129,ha,Result.andThen,qjd,mkE])
theorem rls (v x:Value):ReflectliteValue.set #[v,x]=(do
  let (some (dst,a,fl),some (src,b,_)):=(← ReflectliteValue.parts v,← ReflectliteValue.parts x)
   | unsupported (.noEntry "extern/(internal/reflectlite.Value).Set.zeroValue")
  if fl/ReflectliteValue.flagAddr%2==0 then unsupported (.noEntry "extern/(internal/reflectlite.Value).Set.unaddressable")
  let val ← loadVar src b
  if ← Rtype.directlyAssignable dst src then storeVar dst a val
  else if ← Rtype.implements dst src then
   if (← Rtype.kind src)==20 then
    match val with
    | .nilIface=>unsupported (.noEntry "extern/reflectlite: a nil value of one interface type handed on as a value of another")
    | _=>storeVar dst a val
   else storeVar dst a (.iface src val)
  else panicString ("reflectlite.Set: value of type "++(← Rtype.spelt src)++ " is not assignable to type "++(← Rtype.spelt dst))
  pure (.tuple #[])):=rfl
theorem qis (a:Addr) (w:World):(ReflectliteValue.parts (.agg #[.pointer (some ⟨10,33,none⟩),.pointer (some a),.int .u64 386])).run prog w=.ok (some (33,a,386)) w:=by kernel_rfl
theorem qmq (a:Addr) (w:World):(ReflectliteValue.parts (.agg #[.pointer (some ⟨10,33,none⟩),.pointer (some a),.int .u64 130])).run prog w=.ok (some (33,a,130)) w:=by kernel_rfl
theorem qje (w:World):(Rtype.directlyAssignable 33 33).run prog w=.ok true w:=by kernel_rfl
theorem qns (ta b:Addr) (n:Int) (old:Value) (W:World) (hb:W.cell? b=some (.int .i64 n)) (ht:W.cell? ta=some old) (hf:W.frozen? ta=false) :
  (ReflectliteValue.set #[.agg #[.pointer (some ⟨10,33,none⟩),.pointer (some ta),.int .u64 386],.agg #[.pointer (some ⟨10,33,none⟩),.pointer (some b),.int .u64 130]]).run prog W
   = .ok (.tuple #[]) (W.setCell ta (.int .i64 n)):=by(
rw[rls]
simp only[Sem.run_bind,qis,qmq,Result.andThen]
simp[ReflectliteValue.flagAddr,loadVar,isAgg,underlying,underlying33,hb,Result.andThen,qje,storeVar,Value.cells,storeCells,Addr.add]
rw[run_store prog W ta _ _ (by rfl)]
simp[ht,hf])
theorem zvo (n:Int) (w:World) (hg:w.cell? ⟨0,0,none⟩=some (.iface 282 (.agg #[.pointer (some ⟨10,29,none⟩)]))) :
  Calls prog 11 #[.iface 33 (.int .i64 n)] w fun e w'=>e=.returned (.int .i64 n)∧But [] w w':=by(
have h22:=@run_callFunc_extern prog 162 _ (fun args=>ReflectliteValue.unpack (args.getD 0 (.tuple #[]))) func162 (by kernel_rfl) (by kernel_rfl) (by kernel_rfl) (by kernel_rfl)
have h23:=@run_callFunc_extern prog 163 _ (ReflectliteValue.methodAny (ReflectliteValue.valueError "reflectlite.Value.Type" 0) (fun t _ _ _=>ReflectliteType.toType t)) func163 (by kernel_rfl) (by kernel_rfl) (by kernel_rfl) (by kernel_rfl)
have h24:=@run_callFunc_extern prog 164 _ (ReflectliteValue.method (ReflectliteValue.valueError "reflectlite.Value.IsNil" 0) ReflectliteValue.isNil) func164 (by kernel_rfl) (by kernel_rfl) (by kernel_rfl) (by kernel_rfl)
have h128:=@run_callFunc_extern prog 356 _ (ReflectliteType.abiMethod fun t=>do pure (.int .u8 (← Rtype.kind t))) func356 (by kernel_rfl) (by kernel_rfl) (by kernel_rfl) (by kernel_rfl)
have h141:=@run_callFunc_extern prog 369 _ (ReflectliteType.method ReflectliteType.elem) func369 (by kernel_rfl) (by kernel_rfl) (by kernel_rfl) (by kernel_rfl)
have h142:=@run_callFunc_extern prog 370 _ (ReflectliteType.relation "Implements" ReflectliteType.implements_) func370 (by kernel_rfl) (by kernel_rfl) (by kernel_rfl) (by kernel_rfl)
have h40:=@run_callFunc_extern prog 224 _ ReflectliteType.typeOf func224 (by kernel_rfl) (by kernel_rfl) (by kernel_rfl) (by kernel_rfl)
have h139:=@run_callFunc_extern prog 367 _ (ReflectliteType.relation "AssignableTo" ReflectliteType.assignableTo) func367 (by kernel_rfl) (by kernel_rfl) (by kernel_rfl) (by kernel_rfl)
have h41:=@run_callFunc_extern prog 225 _ (ReflectliteValue.method (ReflectliteValue.valueError "reflectlite.Value.Elem" 0) ReflectliteValue.elem) func225 (by kernel_rfl) (by kernel_rfl) (by kernel_rfl) (by kernel_rfl)
have h42:=@run_callFunc_extern prog 226 _ ReflectliteValue.set func226 (by kernel_rfl) (by kernel_rfl) (by kernel_rfl) (by kernel_rfl)
have tO:=qhw
have mA:=zhh
have aE:=zvd
have vE:=qcs
have vT:=qcr
have tT:=qne
have mK:=zwn
have mE:=zwo
have mI:=zjy
have kT:=qnm
have kE:=qnn
have eT:=qno
have iE:=zuj
have nT:=qmu
have eV:=qmx
have st:=qns ⟨w.heap.size,0,none⟩ ⟨w.heap.size+1+1+1+1,0,none⟩ n (.int .i64 0) (((((w.alloc (.cells #[.int .i64 0] 33)).alloc (.cells #[.pointer (some ⟨w.heap.size,0,none⟩)] 129)).alloc (.cells #[.pointer (some ⟨10,129,none⟩),.pointer (some ⟨w.heap.size+1,0,none⟩),.int .u64 150] 228)).alloc (.cells #[.pointer (some ⟨10,129,none⟩),.pointer (some ⟨w.heap.size+1,0,none⟩),.int .u64 150] 228)).alloc (.cells #[.int .i64 n] 33))
 (by rw[World.cell?_alloc_at _ _ _ _ (by simp)];rfl)
 (by rw[World.cell?_alloc_lt _ _ _ (by simp;omega),World.cell?_alloc_lt _ _ _ (by simp;omega),World.cell?_alloc_lt _ _ _ (by simp;omega),World.cell?_alloc_lt _ _ _ (by simp),World.cell?_alloc_new];rfl)
 (by rw[World.frozen?_alloc_old _ _ _ (by simp;omega),World.frozen?_alloc_old _ _ _ (by simp;omega),World.frozen?_alloc_old _ _ _ (by simp;omega),World.frozen?_alloc_old _ _ _ (by simp),World.frozen?_alloc_new])
have hlt : 0 < w.heap.size:=ai hg
have hg3:∀ o1 o2 o3,(((w.alloc o1).alloc o2).alloc o3).cell? ⟨0,0,none⟩=some (.iface 282 (.agg #[.pointer (some ⟨10,29,none⟩)])):=fun o1 o2 o3=>by
 rw[World.cell?_alloc_lt _ _ ⟨0,0,none⟩ (by first | (simp;done) | (simp;omega)),World.cell?_alloc_lt _ _ ⟨0,0,none⟩ (by first | (simp;done) | (simp;omega)),World.cell?_alloc_lt _ _ ⟨0,0,none⟩ hlt];exact hg
go_enter func11,ntmps11
go_wp2
refine wp_loop_rounds 1 ?_
rw[rounds_succ]
go_wp2
go_ret
refine⟨rfl,?_⟩
repeat (first | exact But.refl _ _ | refine But.alloc ?_ _ | refine But.drew ?_ | refine But.setCell ?_ (.inr (by simp)) _))
end Go.Proofs.YtpmjeclpkahkmaaGreatDoor
