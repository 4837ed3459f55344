/- Layers and worst parts, plain: sums over -/
import Derived.Test.YtffghofheeleeaaGreatDoorProg
import Derived.LaidEql
import Derived.Stop.Asserts
import Derived.RowKitTokens
import Derived.Test.YtffghofheeleeaaGreatDoorKHNr
import Derived.Test.YtffghofheeleeaaGreatDoorKHSr
namespace Go.Proofs.YtffghofheeleeaaGreatDoor
open Go.Proofs.Tryz
set_option maxHeartbeats 8000000
set_option maxRecDepth 100000
def sgR (f:Nat→Rat):Nat→Rat
 | 0=>0
 | k+1=>sgR f k+f k
theorem zge (f g:Nat→Rat):∀ n,(∀ k,k<n→f k=g k)→sgR f n=sgR g n
 | 0,_=>rfl
 | n+1,h=>by
  show sgR f n+f n=sgR g n+g n
  rw[zge f g n (fun k hk=>h k (by omega)),h n (by omega)]
theorem sgR_add (f g:Nat→Rat):∀ n,sgR (fun k=>f k+g k) n=sgR f n+sgR g n
 | 0=>by
  show (0:Rat)=0+0
  grind
 | n+1=>by
  show sgR _ n+(f n+g n)=sgR f n+f n+(sgR g n+g n)
  rw[sgR_add f g n];grind
theorem sgR_nonneg (f:Nat→Rat):∀ n,(∀ k,k<n→0≤f k)→0≤sgR f n
 | 0,_=>by
  show (0:Rat)≤0
  decide
 | n+1,h=>by
  have h1:=sgR_nonneg f n (fun k hk=>h k (by omega))
  have h2:=h n (by omega)
  show 0≤sgR f n+f n
  grind
theorem sgR_lin (f:Nat→Rat) (c:Rat):∀ n,sgR (fun k=>c*f k) n=c*sgR f n
 | 0=>by
  show (0:Rat)=c*0
  grind
 | n+1=>by
  show sgR (fun k=>c*f k) n+c*f n=c*(sgR f n+f n)
  rw[sgR_lin f c n];grind
open Go.RowKit
theorem len_zero (n:Nat) (h:1≤n):Len 0 n:=⟨Nat.le_trans (aj (by omega) _ 1 (by decide)) h,Nat.le_trans (aj (by omega) _ 1 (by decide)) h⟩
theorem sgR_sub (f g:Nat→Rat):∀ n,sgR (fun k=>f k-g k) n=sgR f n-sgR g n
 | 0=>by
  show (0:Rat)=0-0
  grind
 | n+1=>by
  show sgR _ n+(f n-g n)=sgR f n+f n-(sgR g n+g n)
  rw[sgR_sub f g n];grind
theorem sgR_times (f:Nat→Rat) (c:Rat) (n:Nat):sgR (fun k=>f k*c) n=sgR f n*c:=by
 rw[Rat.mul_comm,← sgR_lin]
 exact zge _ _ n (fun k _=>Rat.mul_comm _ _)
theorem var_eq (c m:Nat→Rat) (n:Nat) (h1:sgR c n=1):sgR (fun j=>c j*(m j*m j)) n-sgR (fun j=>c j*m j) n*sgR (fun j=>c j*m j) n=sgR (fun j=>c j*((m j-sgR (fun j=>c j*m j) n)*(m j-sgR (fun j=>c j*m j) n))) n:=by
 generalize hM:sgR (fun j=>c j*m j) n=M at *
 have e:sgR (fun j=>c j*((m j-M)*(m j-M))) n=sgR (fun j=>(c j*(m j*m j)-(c j*m j)*(2*M))+c j*(M*M)) n:=zge _ _ n (fun j _=>by grind)
 rw[e,sgR_add,sgR_sub,sgR_times (fun j=>c j*m j),sgR_times c,hM,h1]
 grind
theorem sq_nonneg (x:Rat):0≤x*x:=by
 rcases (Rat.le_total:(0:Rat)≤x∨x≤0) with h | h
 ·exact Rat.mul_nonneg h h
 ·have:=Rat.mul_nonneg (show 0≤-x by grind) (show 0≤-x by grind)
  grind
theorem var_nonneg (c m:Nat→Rat) (n:Nat) (hc:∀ j,j<n→0≤c j) (h1:sgR c n=1):0≤sgR (fun j=>c j*(m j*m j)) n-sgR (fun j=>c j*m j) n*sgR (fun j=>c j*m j) n:=by
 rw[var_eq c m n h1]
 exact sgR_nonneg _ n (fun j hj=>Rat.mul_nonneg (hc j hj) (sq_nonneg _))
theorem nba_ext {a b:ByteArray} (h:a.data.toList=b.data.toList):a=b:=by
 cases a;cases b;simp only[ByteArray.mk.injEq];exact Array.ext' h
theorem nba_app (a b:ByteArray):(a++b).data.toList=a.data.toList++b.data.toList:=by simp
theorem txt_same (x:Rat):zei (decide (x.num<0)) x.num.natAbs x.den=ratTxt x.num x.den:=by
 apply nba_ext
 have e:zaz x.num=(if decide (x.num<0) then [45] else [])++Lib.decDigits x.num.natAbs:=by
  rw[zaz]
  by_cases h:x.num<0
  ·rw[if_pos h,decide_eq_true h];rfl
  ·rw[if_neg h,decide_eq_false h];rfl
 have e2:zaz (x.den:Int)=Lib.decDigits x.den:=by rw[zaz,if_neg (by omega),Int.natAbs_natCast]
 generalize decide (x.num<0)=r at *
 rw[zei,ratTxt,nba_app]
 by_cases hq:x.den=1
 ·rw[if_pos hq,if_pos hq,e]
  cases r <;> simp
 ·rw[if_neg hq,if_neg hq,nba_app,nba_app,nba_app,e,e2]
  cases r <;> simp
theorem txt_zero:zei false 0 1=⟨#[48]⟩:=by
 rw[zei]
 have:Lib.decDigits 0=[48]:=by rw[Lib.decDigits,dif_pos (by omega)];rfl
 rw[this]
 apply nba_ext
 rw[nba_app];rfl
theorem len_zeroX:Len (0:Rat) 1000000:=⟨by show (wd 18446744073709551616 0).length≤_;rw[zn];simp,Nat.le_trans (aj (B:=18446744073709551616) (by omega) 1 1 (by omega)) (by omega)⟩
theorem z8 {f:Rat} {n:Nat} (h:Len f n):qg f (2*n):=by
 have h1:=ak (B:=18446744073709551616) (by omega) _ n h.1
 have h2:=ak (B:=18446744073709551616) (by omega) _ n h.2
 have e:(18446744073709551616:Nat)^n=4294967296^(2*n):=by rw[Nat.pow_mul]
 rw[e] at h1 h2
 exact⟨aj (by omega) _ _ h1,aj (by omega) _ _ h2⟩
set_option linter.unusedVariables false
theorem zck (z:Int) (w:World) (h1:-9223372036854775808≤z) (h2:z<9223372036854775808) :
  Calls prog 16 #[.int .i64 z] w fun e w'=>∃ zb,e=.returned (.pointer (some ⟨zb,0,none⟩))∧za w' zb (((z:Int):Rat))∧But [] w w':=by
 obtain⟨i1,i2⟩:=bj z
 exact (refInt_any z w h1 h2).mono fun e w' ⟨zb,he,hb,hr⟩=>⟨zb,he,by unfold za;rw[i1,i2];exact hr,hb⟩
theorem zcl (xb yb:Nat) (f g:Rat) (w:World) (hx:za w xb f) (hy:za w yb g) (lf:qg f 2000000) (lg:qg g 2000000) :
  Calls prog 51 #[.pointer (some ⟨xb,0,none⟩),.pointer (some ⟨yb,0,none⟩)] w fun e w'=>∃ zb,e=.returned (.pointer (some ⟨zb,0,none⟩))∧za w' zb (f+g)∧But [] w w' :=
 (refAdd_any xb yb f g w hx hy lf lg).mono fun e w' ⟨zb,he,hb,hr,_⟩=>⟨zb,he,hr,hb⟩
theorem refSubQ (xb yb:Nat) (f g:Rat) (w:World) (hx:za w xb f) (hy:za w yb g) (lf:qg f 2000000) (lg:qg g 2000000) :
  Calls prog 47 #[.pointer (some ⟨xb,0,none⟩),.pointer (some ⟨yb,0,none⟩)] w fun e w'=>∃ zb,e=.returned (.pointer (some ⟨zb,0,none⟩))∧za w' zb (f-g)∧But [] w w' :=
 (refSub_any xb yb f g w hx hy lf lg).mono fun e w' ⟨zb,he,hb,hr,_⟩=>⟨zb,he,hr,hb⟩
theorem tu (xb yb:Nat) (f g:Rat) (w:World) (hx:za w xb f) (hy:za w yb g) (lf:qg f 2000000) (lg:qg g 2000000) :
  Calls prog 42 #[.pointer (some ⟨xb,0,none⟩),.pointer (some ⟨yb,0,none⟩)] w fun e w'=>∃ zb,e=.returned (.pointer (some ⟨zb,0,none⟩))∧za w' zb (f*g)∧But [] w w' :=
 (refMul_any xb yb f g w hx hy lf lg).mono fun e w' ⟨zb,he,hb,hr,_⟩=>⟨zb,he,hr,hb⟩
theorem refDivQ (xb yb:Nat) (f g q:Rat) (w:World) (hx:za w xb f) (hy:za w yb g) (lf:qg f 2000000) (lg:qg g 2000000) (hg0:g.num≠0) (hq:q*g=f) :
  Calls prog 59 #[.pointer (some ⟨xb,0,none⟩),.pointer (some ⟨yb,0,none⟩)] w fun e w'=>∃ zb,e=.returned (.pointer (some ⟨zb,0,none⟩))∧za w' zb (q)∧But [] w w' :=
 (refDivU_any xb yb f g q w hx hy lf lg hg0 hq).mono fun e w' ⟨zb,he,hb,hr,_⟩=>⟨zb,he,hr,hb⟩
theorem refOfQ (o u:Int) (f:Rat) (w:World) (ho1:-9223372036854775808≤o) (ho2:o<9223372036854775808) (hu1:-9223372036854775808≤u) (hu2:u<9223372036854775808) (hf:f.num*(if u=0 then 1 else u)=o*(f.den:Int)) :
  Calls prog 12 #[.agg #[.int .i64 o,.int .i64 u]] w fun e w'=>∃ zb,e=.returned (.pointer (some ⟨zb,0,none⟩))∧za w' zb (f)∧But [] w w' :=
 (refOf_any o u f w ho1 ho2 hu1 hu2 hf).mono fun e w' ⟨zb,he,hb,hr,_⟩=>⟨zb,he,hr,hb⟩
theorem refSignQ (b:Nat) (f:Rat) (w:World) (h:za w b f) (s:Int) (hs:s=f.num.sign) (hl:qg f 2000000) :
  Calls prog 50 #[.pointer (some ⟨b,0,none⟩)] w fun e w'=>e=.returned (.int .i64 s)∧But [] w w' :=
 (zfg b f.num (f.den:Int) w h s hs (by have:=hl.1;omega)).mono fun e w' ⟨he,hw⟩=>⟨he,by rw[hw];exact But.refl _ _⟩
theorem qg.int {z:Int} (h:z.natAbs<18446744073709551616):qg ((z:Int):Rat) 2:=by
 obtain⟨i1,i2⟩:=bj z
 exact⟨by rw[i1];exact je _ h,by rw[i2];exact je _ (by omega)⟩
open Go.RowKit Go.Extern.Stop Go.Stop Go.Extern
theorem valueOfT (t:Addr) (w:World):(ReflectliteValue.unpack (.iface 90 (.pointer (some t)))).run prog w
  = .ok (.agg #[.pointer (some ⟨6,90,none⟩),.pointer (some ⟨w.heap.size,0,none⟩),.int .u64 150]) (w.alloc (.cells #[.pointer (some t)] 90)):=by kernel_rfl
theorem typeT (a:Addr) (w:World):(ReflectliteValue.methodAny (ReflectliteValue.valueError "reflectlite.Value.Type" 0) (fun t _ _ _=>ReflectliteType.toType t) #[.agg #[.pointer (some ⟨6,90,none⟩),.pointer (some a),.int .u64 150]]).run prog w
  = .ok (.iface 183 (.agg #[.pointer (some ⟨6,90,none⟩)])) w:=by kernel_rfl
theorem kindT (w:World):((ReflectliteType.abiMethod fun t=>(fun a:Nat=>Value.int IntKind.u8 (a:Int)) <$> Rtype.kind t) #[.pointer (some ⟨6,90,none⟩)]).run prog w=.ok (.int .u8 22) w:=by kernel_rfl
theorem kindE (w:World):((ReflectliteType.abiMethod fun t=>(fun a:Nat=>Value.int IntKind.u8 (a:Int)) <$> Rtype.kind t) #[.pointer (some ⟨6,33,none⟩)]).run prog w=.ok (.int .u8 2) w:=by kernel_rfl
theorem valueOfE (n:Int) (w:World):(ReflectliteValue.unpack (.iface 33 (.int .i64 n))).run prog w
  = .ok (.agg #[.pointer (some ⟨6,33,none⟩),.pointer (some ⟨w.heap.size,0,none⟩),.int .u64 130]) (w.alloc (.cells #[.int .i64 n] 33)):=by kernel_rfl
theorem methodKind (h:Value) (w:World):(Go.method 377 183 (.agg #[h]) "Kind").run prog w=.ok (224,h) w:=by kernel_rfl
theorem methodElem (h:Value) (w:World):(Go.method 377 183 (.agg #[h]) "Elem").run prog w=.ok (236,.agg #[h]) w:=by kernel_rfl
theorem methodImplements (h:Value) (w:World):(Go.method 377 183 (.agg #[h]) "Implements").run prog w=.ok (237,.agg #[h]) w:=by kernel_rfl
theorem methodAssignableTo (h:Value) (w:World):(Go.method 377 183 (.agg #[h]) "AssignableTo").run prog w=.ok (234,.agg #[h]) w:=by kernel_rfl
theorem rlm (z:Sem Value) (f:TypeId→Addr→Nat→Nat→Sem Value) (v:Value) :
  ReflectliteValue.method z f #[v]=(do match ← ReflectliteValue.parts v with | none=>z | some (t,a,fl)=>f t a fl (fl%32)):=rfl
theorem partsT (a:Addr) (w:World):(ReflectliteValue.parts (.agg #[.pointer (some ⟨6,90,none⟩),.pointer (some a),.int .u64 150])).run prog w=.ok (some (90,a,150)) w:=by kernel_rfl
theorem isNilT (a p:Addr) (W:World) (ha:W.cell? a=some (.pointer (some p))) :
  (ReflectliteValue.method (ReflectliteValue.valueError "reflectlite.Value.IsNil" 0) ReflectliteValue.isNil #[.agg #[.pointer (some ⟨6,90,none⟩),.pointer (some a),.int .u64 150]]).run prog W=.ok (.bool false) W:=by
 rw[rlm]
 simp only[Sem.run_bind,partsT,Result.andThen]
 simp[ReflectliteValue.isNil,loadVar,isAgg,underlying,underlying90,ha,Result.andThen]
theorem elemT (w:World):(ReflectliteType.method ReflectliteType.elem #[.agg #[.pointer (some ⟨6,90,none⟩)]]).run prog w=.ok (.iface 183 (.agg #[.pointer (some ⟨6,33,none⟩)])) w:=by kernel_rfl
theorem implementsE (w:World):(ReflectliteType.relation "Implements" ReflectliteType.implements_ #[.agg #[.pointer (some ⟨6,33,none⟩)],.iface 183 (.agg #[.pointer (some ⟨6,29,none⟩)])]).run prog w=.ok (.bool true) w:=by kernel_rfl
theorem typeOfE (v:Value) (w:World):(ReflectliteType.typeOf #[.iface 33 v]).run prog w=.ok (.iface 183 (.agg #[.pointer (some ⟨6,33,none⟩)])) w:=by kernel_rfl
theorem assignableE (w:World):(ReflectliteType.relation "AssignableTo" ReflectliteType.assignableTo #[.agg #[.pointer (some ⟨6,33,none⟩)],.iface 183 (.agg #[.pointer (some ⟨6,33,none⟩)])]).run prog w=.ok (.bool true) w:=by kernel_rfl
theorem elemOfT (w:World):(Rtype.elem? 90).run prog w=.ok (some 33) w:=by kernel_rfl
theorem mkE (p:Addr) (w:World):(ReflectliteValue.mk 33 p ReflectliteValue.flagAddr).run prog w=.ok (.agg #[.pointer (some ⟨6,33,none⟩),.pointer (some p),.int .u64 386]) w:=by kernel_rfl
theorem elemVT (a p:Addr) (W:World) (ha:W.cell? a=some (.pointer (some p))) :
  (ReflectliteValue.method (ReflectliteValue.valueError "reflectlite.Value.Elem" 0) ReflectliteValue.elem #[.agg #[.pointer (some ⟨6,90,none⟩),.pointer (some a),.int .u64 150]]).run prog W
   = .ok (.agg #[.pointer (some ⟨6,33,none⟩),.pointer (some p),.int .u64 386]) W:=by
 rw[rlm]
 simp only[Sem.run_bind,partsT,Result.andThen]
 simp[ReflectliteValue.elem,loadVar,isAgg,underlying,underlying90,ha,Result.andThen,elemOfT,mkE]
theorem rls (v x:Value):ReflectliteValue.set #[v,x]=(do
  let (some (dst,a,fl),some (src,b,_)):=(← ReflectliteValue.parts v,← ReflectliteValue.parts x)
   | unsupported (.noEntry "extern/(internal/reflectlite.Value).Set.zeroValue")
  if fl/ReflectliteValue.flagAddr%2==0 then unsupported (.noEntry "extern/(internal/reflectlite.Value).Set.unaddressable")
  let val ← loadVar src b
  if ← Rtype.directlyAssignable dst src then storeVar dst a val
  else if ← Rtype.implements dst src then
   if (← Rtype.kind src)==20 then
    match val with
    | .nilIface=>unsupported (.noEntry "extern/reflectlite: a nil value of one interface type handed on as a value of another")
    | _=>storeVar dst a val
   else storeVar dst a (.iface src val)
  else panicString ("reflectlite.Set: value of type "++(← Rtype.spelt src)++" is not assignable to type "++(← Rtype.spelt dst))
  pure (.tuple #[])):=rfl
theorem partsEa (a:Addr) (w:World):(ReflectliteValue.parts (.agg #[.pointer (some ⟨6,33,none⟩),.pointer (some a),.int .u64 386])).run prog w=.ok (some (33,a,386)) w:=by kernel_rfl
theorem partsE (a:Addr) (w:World):(ReflectliteValue.parts (.agg #[.pointer (some ⟨6,33,none⟩),.pointer (some a),.int .u64 130])).run prog w=.ok (some (33,a,130)) w:=by kernel_rfl
theorem directE (w:World):(Rtype.directlyAssignable 33 33).run prog w=.ok true w:=by kernel_rfl
theorem setE (ta b:Addr) (n:Int) (old:Value) (W:World) (hb:W.cell? b=some (.int .i64 n)) (ht:W.cell? ta=some old) (hf:W.frozen? ta=false) :
  (ReflectliteValue.set #[.agg #[.pointer (some ⟨6,33,none⟩),.pointer (some ta),.int .u64 386],.agg #[.pointer (some ⟨6,33,none⟩),.pointer (some b),.int .u64 130]]).run prog W
   = .ok (.tuple #[]) (W.setCell ta (.int .i64 n)):=by
 rw[rls]
 simp only[Sem.run_bind,partsEa,partsE,Result.andThen]
 simp[ReflectliteValue.flagAddr,loadVar,isAgg,underlying,underlying33,hb,Result.andThen,directE,storeVar,Value.cells,storeCells,Addr.add]
 rw[run_store prog W ta _ _ (by rfl)]
 simp[ht,hf]
theorem tell_errno (n:Int) (w:World) (hg:w.cell? ⟨0,0,none⟩=some (.iface 183 (.agg #[.pointer (some ⟨6,29,none⟩)]))) :
  Calls prog 8 #[.iface 33 (.int .i64 n)] w fun e w'=>e=.returned (.int .i64 n)∧But [] w w':=by
 have h22:=@run_callFunc_extern prog 83 _ (fun args=>ReflectliteValue.unpack (args.getD 0 (.tuple #[]))) func83 (by kernel_rfl) (by kernel_rfl) (by kernel_rfl) (by kernel_rfl)
 have h23:=@run_callFunc_extern prog 84 _ (ReflectliteValue.methodAny (ReflectliteValue.valueError "reflectlite.Value.Type" 0) (fun t _ _ _=>ReflectliteType.toType t)) func84 (by kernel_rfl) (by kernel_rfl) (by kernel_rfl) (by kernel_rfl)
 have h24:=@run_callFunc_extern prog 85 _ (ReflectliteValue.method (ReflectliteValue.valueError "reflectlite.Value.IsNil" 0) ReflectliteValue.isNil) func85 (by kernel_rfl) (by kernel_rfl) (by kernel_rfl) (by kernel_rfl)
 have h128:=@run_callFunc_extern prog 224 _ (ReflectliteType.abiMethod fun t=>do pure (.int .u8 (← Rtype.kind t))) func224 (by kernel_rfl) (by kernel_rfl) (by kernel_rfl) (by kernel_rfl)
 have h141:=@run_callFunc_extern prog 236 _ (ReflectliteType.method ReflectliteType.elem) func236 (by kernel_rfl) (by kernel_rfl) (by kernel_rfl) (by kernel_rfl)
 have h142:=@run_callFunc_extern prog 237 _ (ReflectliteType.relation "Implements" ReflectliteType.implements_) func237 (by kernel_rfl) (by kernel_rfl) (by kernel_rfl) (by kernel_rfl)
 have h40:=@run_callFunc_extern prog 137 _ ReflectliteType.typeOf func137 (by kernel_rfl) (by kernel_rfl) (by kernel_rfl) (by kernel_rfl)
 have h139:=@run_callFunc_extern prog 234 _ (ReflectliteType.relation "AssignableTo" ReflectliteType.assignableTo) func234 (by kernel_rfl) (by kernel_rfl) (by kernel_rfl) (by kernel_rfl)
 have h41:=@run_callFunc_extern prog 138 _ (ReflectliteValue.method (ReflectliteValue.valueError "reflectlite.Value.Elem" 0) ReflectliteValue.elem) func138 (by kernel_rfl) (by kernel_rfl) (by kernel_rfl) (by kernel_rfl)
 have h42:=@run_callFunc_extern prog 139 _ ReflectliteValue.set func139 (by kernel_rfl) (by kernel_rfl) (by kernel_rfl) (by kernel_rfl)
 have tO:=typeOfE
 have mA:=methodAssignableTo
 have aE:=assignableE
 have vE:=valueOfE
 have vT:=valueOfT
 have tT:=typeT
 have mK:=methodKind
 have mE:=methodElem
 have mI:=methodImplements
 have kT:=kindT
 have kE:=kindE
 have eT:=elemT
 have iE:=implementsE
 have nT:=isNilT
 have eV:=elemVT
 have st:=setE ⟨w.heap.size,0,none⟩ ⟨w.heap.size+1+1+1+1,0,none⟩ n (.int .i64 0) (((((w.alloc (.cells #[.int .i64 0] 33)).alloc (.cells #[.pointer (some ⟨w.heap.size,0,none⟩)] 90)).alloc (.cells #[.pointer (some ⟨6,90,none⟩),.pointer (some ⟨w.heap.size+1,0,none⟩),.int .u64 150] 136)).alloc (.cells #[.pointer (some ⟨6,90,none⟩),.pointer (some ⟨w.heap.size+1,0,none⟩),.int .u64 150] 136)).alloc (.cells #[.int .i64 n] 33))
  (by rw[World.cell?_alloc_at _ _ _ _ (by simp)];rfl)
  (by rw[World.cell?_alloc_lt _ _ _ (by simp;omega),World.cell?_alloc_lt _ _ _ (by simp;omega),World.cell?_alloc_lt _ _ _ (by simp;omega),World.cell?_alloc_lt _ _ _ (by simp),World.cell?_alloc_new];rfl)
  (by rw[World.frozen?_alloc_old _ _ _ (by simp;omega),World.frozen?_alloc_old _ _ _ (by simp;omega),World.frozen?_alloc_old _ _ _ (by simp;omega),World.frozen?_alloc_old _ _ _ (by simp),World.frozen?_alloc_new])
 have hlt : 0 < w.heap.size:=ai hg
 have hg3:∀ o1 o2 o3,(((w.alloc o1).alloc o2).alloc o3).cell? ⟨0,0,none⟩=some (.iface 183 (.agg #[.pointer (some ⟨6,29,none⟩)])):=fun o1 o2 o3=>by
  rw[World.cell?_alloc_lt _ _ ⟨0,0,none⟩ (by first | (simp;done) | (simp;omega)),World.cell?_alloc_lt _ _ ⟨0,0,none⟩ (by first | (simp;done) | (simp;omega)),World.cell?_alloc_lt _ _ ⟨0,0,none⟩ hlt];exact hg
 go_enter func8,ntmps8
 go_wp2
 refine wp_loop_rounds 1 ?_
 rw[rounds_succ]
 go_wp2
 go_ret
 refine⟨rfl,?_⟩
 repeat (first | exact But.refl _ _ | refine But.alloc ?_ _ | refine But.drew ?_ | refine But.setCell ?_ (.inr (by simp)) _)
theorem qf_parts (q:Int × Int) (h:Fits q):(qf q).num*(if q.2=0 then 1 else q.2)=q.1*((qf q).den:Int):=by
 obtain⟨f,r,x,y,-,hf,-⟩:=plainF_any q.1 q.2 h.1 h.2.1 h.2.2.1 h.2.2.2
 rw[← qf_of f q hf]
 exact hf
def zdt (w:World) (b:Nat) (f:Rat):Prop:=za w b f∨(f=0∧j4 w b)
theorem zdt.but {w w':World} {b:Nat} {f:Rat} (h:zdt w b f) (hb:But [] w w'):zdt w' b f:=h.elim (fun h=>.inl (h.but hb)) (fun ⟨e,h⟩=>.inr ⟨e,h.but hb⟩)
theorem zgm {F:Nat→Rat} {c:Nat}:∀ n,(∀ i,i<n→qg (F i) c)→qg (sgR F n) (n*(c+1)+1)
 | 0,_=>by
  have:=qg.int (z:=0) (by decide)
  exact⟨by show (wd 4294967296 0).length≤_;rw[zn];simp,by show (wd 4294967296 1).length≤_;exact Nat.le_trans (aj (B:=4294967296) (by omega) 1 1 (by omega)) (by omega)⟩
 | n+1,h=>((zgm n (fun i hi=>h i (by omega))).add (h n (by omega))).mono (by rw[Nat.succ_mul];omega)
end Go.Proofs.YtffghofheeleeaaGreatDoor
