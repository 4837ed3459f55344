/- Plain facts on dividing two words by one -/
import Derived.Laws.Bits64b
import Derived.Test.YtffghofheeleeaaGreatDoorProg
import Derived.LaidEql
import Derived.Stop.Asserts
import Derived.RowKitTokens
import Derived.Test.YtffghofheeleeaaGreatDoorKBase
namespace Go.Proofs.YtffghofheeleeaaGreatDoor
open Go.Proofs.Tryz
set_option maxHeartbeats 8000000
set_option maxRecDepth 100000
theorem qfo (u Y n1 n0 u1 q r:Nat) (hY:Y=n1*4294967296+n0) (e:u=q*n1+r) (hr:r<n1) (hu1:u1<4294967296):(u*4294967296+u1)/Y≤q:=by
 have h0:0<Y:=by omega
 have:u*4294967296+u1<(q+1)*(n1*4294967296):=by
  have h1:u+1≤(q+1)*n1:=by rw[e,Nat.add_mul];omega
  have h2:=Nat.mul_le_mul_right 4294967296 h1
  grind
 apply Nat.le_of_lt_succ
 rw[Nat.div_lt_iff_lt_mul h0]
 subst hY
 grind
theorem qob (u Y n1 n0 u1 q r:Nat) (hY:Y=n1*4294967296+n0) (e:u=q*n1+r) (hu:u<Y) (hu1:u1<4294967296) (hc:4294967296≤q∨4294967296*r+u1<q*n0):(u*4294967296+u1)/Y<q:=by
 have h0:0<Y:=by omega
 rw[Nat.div_lt_iff_lt_mul h0]
 rcases hc with hc | hc
 ·have h1:4294967296*Y≤q*Y:=Nat.mul_le_mul_right _ hc
  omega
 ·subst hY e
  grind
theorem qoa (u Y n1 n0 u1 q r:Nat) (hY:Y=n1*4294967296+n0) (e:u=q*n1+r) (hu:u<Y) (hQ:(u*4294967296+u1)/Y≤q) (hc:q*n0≤4294967296*r+u1):q=(u*4294967296+u1)/Y:=by
 have h0:0<Y:=by omega
 refine Nat.le_antisymm ?_ hQ
 rw[Nat.le_div_iff_mul_le h0]
 subst hY e
 grind
theorem qoc (u Y n1 n0 u1 q r:Nat) (hY:Y=n1*4294967296+n0) (hn0:n0<4294967296) (e:u=q*n1+r) (hu:u<Y) (hr:4294967296≤r):q<4294967296∧q*n0≤4294967296*r+u1:=by
 have hq:q<4294967296:=by
  rcases Nat.lt_or_ge q 4294967296 with h | h
  ·exact h
  ·have:=Nat.mul_le_mul_right n1 h
   omega
 refine⟨hq,?_⟩
 have h1:q*n0≤4294967296*4294967296:=Nat.mul_le_mul (by omega) (by omega)
 omega
theorem qfn (u Y u1:Nat) (hu:u<Y) (hu1:u1<4294967296):(u*4294967296+u1)/Y<4294967296:=by
 rw[Nat.div_lt_iff_lt_mul (by omega)]
 omega
theorem qzz (N y P Y u L u1 u0 q1 r1 q0 r0:Nat) (hP:0<P) (hY:Y=y*P) (hN:N*P=u*18446744073709551616+L) (hL:L=u1*4294967296+u0) (e1:u*4294967296+u1=q1*Y+r1) (e0:r1*4294967296+u0=q0*Y+r0) (h0:r0<Y):q1*4294967296+q0=N/y∧r0/P=N%y:=by
 have h:N*P=(q1*4294967296+q0)*(y*P)+r0:=by
  subst hL hY
  have:(u*4294967296+u1)*4294967296=(q1*(y*P)+r1)*4294967296:=by rw[e1]
  grind
 subst hY
 have hd:r0=(N-(q1*4294967296+q0)*y)*P:=by
  rw[Nat.sub_mul,h,Nat.mul_assoc];omega
 have hle:(q1*4294967296+q0)*y≤N:=by
  have:(q1*4294967296+q0)*y*P≤N*P:=by rw[h,Nat.mul_assoc];omega
  exact Nat.le_of_mul_le_mul_right this hP
 have hlt:N-(q1*4294967296+q0)*y<y:=by
  rw[hd] at h0
  exact Nat.lt_of_mul_lt_mul_right h0
 have hN2:N=(q1*4294967296+q0)*y+(N-(q1*4294967296+q0)*y):=by omega
 constructor
 ·refine (Nat.div_eq_of_lt_le ?_ ?_).symm
  ·exact hle
  ·rw[Nat.add_mul];omega
 ·rw[hd,Nat.mul_div_cancel _ hP]
  have:=Nat.mod_eq_of_lt hlt
  conv=>rhs;rw[hN2]
  rw[Nat.mul_comm _ y,Nat.mul_add_mod,Nat.mul_comm y,this]
theorem zyg (hi lo s:Nat) (hs:s≤63) (hlo:lo<18446744073709551616):(hi*2^s) ||| (lo/2^(64-s))=hi*2^s+lo/2^(64-s)∧lo/2^(64-s)<2^s:=by
 have hp:18446744073709551616=2^s*2^(64-s):=by rw[← Nat.pow_add,show s+(64-s)=64 from by omega]
 have hb:lo/2^(64-s)<2^s:=by
  rw[Nat.div_lt_iff_lt_mul (Nat.pow_pos (by omega)),← hp];exact hlo
 refine⟨?_,hb⟩
 rw[Nat.mul_comm hi,Nat.two_pow_add_eq_or_of_lt hb]
theorem qzm (hi lo s:Nat) (hs:s≤63):(hi*18446744073709551616+lo)*2^s=(hi*2^s+lo/2^(64-s))*18446744073709551616+lo*2^s%18446744073709551616:=by
 have hp:18446744073709551616=2^(64-s)*2^s:=by rw[← Nat.pow_add,show (64-s)+s=64 from by omega]
 have e:lo*2^s/18446744073709551616=lo/2^(64-s):=by
  rw[hp,Nat.mul_div_mul_right _ _ (Nat.pow_pos (by omega))]
 have:=Nat.div_add_mod (lo*2^s) 18446744073709551616
 rw[e] at this
 grind
theorem qrc (x2 x1 x0 f s P Rl Yl R Y q r:Nat) (hR:R=Rl+P*(x0 + 18446744073709551616*(x1 + 18446744073709551616*x2))) (hY:Y=Yl+P*(s + 18446744073709551616*f)) (hl:Rl<P) (hx0:x0 < 18446744073709551616) (e:x2 * 18446744073709551616+x1=q*f+r) (hr:r<f):R<(q+1)*Y:=by
 have h1:x2 * 18446744073709551616+x1+1≤(q+1)*f:=by rw[e,Nat.add_mul];omega
 have h2:(x2 * 18446744073709551616+x1+1)*(18446744073709551616*P)≤(q+1)*f*(18446744073709551616*P):=Nat.mul_le_mul_right _ h1
 have h3:R<(x2 * 18446744073709551616+x1+1)*(18446744073709551616*P):=by
  have h4:(x0+1)*P≤18446744073709551616*P:=Nat.mul_le_mul_right _ hx0
  subst hR
  grind
 have h5:(q+1)*f*(18446744073709551616*P)≤(q+1)*Y:=by
  subst hY
  grind
 omega
theorem qzu (x2 x1 x0 f s P Rl Yl R Y q r:Nat) (hR:R=Rl+P*(x0 + 18446744073709551616*(x1 + 18446744073709551616*x2))) (hY:Y=Yl+P*(s + 18446744073709551616*f)) (hl:Rl<P) (e:x2 * 18446744073709551616+x1=q*f+r) (hc:r * 18446744073709551616+x0<q*s):R<q*Y:=by
 have h1:x2 * 18446744073709551616 * 18446744073709551616+x1 * 18446744073709551616+x0+1≤q*(s + 18446744073709551616*f):=by
  have:(x2 * 18446744073709551616+x1) * 18446744073709551616=(q*f+r) * 18446744073709551616:=by rw[e]
  grind
 have h2:(x2 * 18446744073709551616 * 18446744073709551616+x1 * 18446744073709551616+x0+1)*P≤q*(s + 18446744073709551616*f)*P:=Nat.mul_le_mul_right _ h1
 subst hR hY
 grind
open Go.RowKit Go.Extern.Stop Go.Stop Go.Extern
theorem qji (t:Addr) (w:World):(ReflectliteValue.unpack (.iface 90 (.pointer (some t)))).run prog w
  = .ok (.agg #[.pointer (some ⟨6,90,none⟩),.pointer (some ⟨w.heap.size,0,none⟩),.int .u64 150]) (w.alloc (.cells #[.pointer (some t)] 90)):=by kernel_rfl
theorem jac (a:Addr) (w:World):(ReflectliteValue.methodAny (ReflectliteValue.valueError "reflectlite.Value.Type" 0) (fun t _ _ _=>ReflectliteType.toType t) #[.agg #[.pointer (some ⟨6,90,none⟩),.pointer (some a),.int .u64 150]]).run prog w
  = .ok (.iface 183 (.agg #[.pointer (some ⟨6,90,none⟩)])) w:=by kernel_rfl
theorem jag (w:World):((ReflectliteType.abiMethod fun t=>(fun a:Nat=>Value.int IntKind.u8 (a:Int)) <$> Rtype.kind t) #[.pointer (some ⟨6,90,none⟩)]).run prog w=.ok (.int .u8 22) w:=by kernel_rfl
theorem jah (w:World):((ReflectliteType.abiMethod fun t=>(fun a:Nat=>Value.int IntKind.u8 (a:Int)) <$> Rtype.kind t) #[.pointer (some ⟨6,33,none⟩)]).run prog w=.ok (.int .u8 2) w:=by kernel_rfl
theorem qjj (n:Int) (w:World):(ReflectliteValue.unpack (.iface 33 (.int .i64 n))).run prog w
  = .ok (.agg #[.pointer (some ⟨6,33,none⟩),.pointer (some ⟨w.heap.size,0,none⟩),.int .u64 130]) (w.alloc (.cells #[.int .i64 n] 33)):=by kernel_rfl
theorem qdm (h:Value) (w:World):(Go.method 377 183 (.agg #[h]) "Kind").run prog w=.ok (224,h) w:=by kernel_rfl
theorem qdn (h:Value) (w:World):(Go.method 377 183 (.agg #[h]) "Elem").run prog w=.ok (236,.agg #[h]) w:=by kernel_rfl
theorem znk (h:Value) (w:World):(Go.method 377 183 (.agg #[h]) "Implements").run prog w=.ok (237,.agg #[h]) w:=by kernel_rfl
theorem zkh (h:Value) (w:World):(Go.method 377 183 (.agg #[h]) "AssignableTo").run prog w=.ok (234,.agg #[h]) w:=by kernel_rfl
theorem rlm (z:Sem Value) (f:TypeId→Addr→Nat→Nat→Sem Value) (v:Value) :
  ReflectliteValue.method z f #[v]=(do match ← ReflectliteValue.parts v with | none=>z | some (t,a,fl)=>f t a fl (fl%32)):=rfl
theorem qle (a:Addr) (w:World):(ReflectliteValue.parts (.agg #[.pointer (some ⟨6,90,none⟩),.pointer (some a),.int .u64 150])).run prog w=.ok (some (90,a,150)) w:=by kernel_rfl
theorem qzt (a p:Addr) (W:World) (ha:W.cell? a=some (.pointer (some p))) :
  (ReflectliteValue.method (ReflectliteValue.valueError "reflectlite.Value.IsNil" 0) ReflectliteValue.isNil #[.agg #[.pointer (some ⟨6,90,none⟩),.pointer (some a),.int .u64 150]]).run prog W=.ok (.bool false) W:=by
 rw[rlm]
 simp only[Sem.run_bind,qle,Result.andThen]
 simp[ReflectliteValue.isNil,loadVar,isAgg,underlying,underlying90,ha,Result.andThen]
theorem jai (w:World):(ReflectliteType.method ReflectliteType.elem #[.agg #[.pointer (some ⟨6,90,none⟩)]]).run prog w=.ok (.iface 183 (.agg #[.pointer (some ⟨6,33,none⟩)])) w:=by kernel_rfl
theorem qbi (w:World):(ReflectliteType.relation "Implements" ReflectliteType.implements_ #[.agg #[.pointer (some ⟨6,33,none⟩)],.iface 183 (.agg #[.pointer (some ⟨6,29,none⟩)])]).run prog w=.ok (.bool true) w:=by kernel_rfl
theorem qpj (v:Value) (w:World):(ReflectliteType.typeOf #[.iface 33 v]).run prog w=.ok (.iface 183 (.agg #[.pointer (some ⟨6,33,none⟩)])) w:=by kernel_rfl
theorem qbv (w:World):(ReflectliteType.relation "AssignableTo" ReflectliteType.assignableTo #[.agg #[.pointer (some ⟨6,33,none⟩)],.iface 183 (.agg #[.pointer (some ⟨6,33,none⟩)])]).run prog w=.ok (.bool true) w:=by kernel_rfl
theorem qrd (w:World):(Rtype.elem? 90).run prog w=.ok (some 33) w:=by kernel_rfl
theorem mkE (p:Addr) (w:World):(ReflectliteValue.mk 33 p ReflectliteValue.flagAddr).run prog w=.ok (.agg #[.pointer (some ⟨6,33,none⟩),.pointer (some p),.int .u64 386]) w:=by kernel_rfl
theorem qzy (a p:Addr) (W:World) (ha:W.cell? a=some (.pointer (some p))) :
  (ReflectliteValue.method (ReflectliteValue.valueError "reflectlite.Value.Elem" 0) ReflectliteValue.elem #[.agg #[.pointer (some ⟨6,90,none⟩),.pointer (some a),.int .u64 150]]).run prog W
   = .ok (.agg #[.pointer (some ⟨6,33,none⟩),.pointer (some p),.int .u64 386]) W:=by
 rw[rlm]
 simp only[Sem.run_bind,qle,Result.andThen]
 simp[ReflectliteValue.elem,loadVar,isAgg,underlying,underlying90,ha,Result.andThen,qrd,mkE]
theorem rls (v x:Value):ReflectliteValue.set #[v,x]=(do
  let (some (dst,a,fl),some (src,b,_)):=(← ReflectliteValue.parts v,← ReflectliteValue.parts x)
   | unsupported (.noEntry "extern/(internal/reflectlite.Value).Set.zeroValue")
  if fl/ReflectliteValue.flagAddr%2==0 then unsupported (.noEntry "extern/(internal/reflectlite.Value).Set.unaddressable")
  let val ← loadVar src b
  if ← Rtype.directlyAssignable dst src then storeVar dst a val
  else if ← Rtype.implements dst src then
   if (← Rtype.kind src)==20 then
    match val with
    | .nilIface=>unsupported (.noEntry "extern/reflectlite: a nil value of one interface type handed on as a value of another")
    | _=>storeVar dst a val
   else storeVar dst a (.iface src val)
  else panicString ("reflectlite.Set: value of type "++(← Rtype.spelt src)++ " is not assignable to type "++(← Rtype.spelt dst))
  pure (.tuple #[])):=rfl
theorem qqt (a:Addr) (w:World):(ReflectliteValue.parts (.agg #[.pointer (some ⟨6,33,none⟩),.pointer (some a),.int .u64 386])).run prog w=.ok (some (33,a,386)) w:=by kernel_rfl
theorem qzq (a:Addr) (w:World):(ReflectliteValue.parts (.agg #[.pointer (some ⟨6,33,none⟩),.pointer (some a),.int .u64 130])).run prog w=.ok (some (33,a,130)) w:=by kernel_rfl
theorem qre (w:World):(Rtype.directlyAssignable 33 33).run prog w=.ok true w:=by kernel_rfl
theorem jal (ta b:Addr) (n:Int) (old:Value) (W:World) (hb:W.cell? b=some (.int .i64 n)) (ht:W.cell? ta=some old) (hf:W.frozen? ta=false) :
  (ReflectliteValue.set #[.agg #[.pointer (some ⟨6,33,none⟩),.pointer (some ta),.int .u64 386],.agg #[.pointer (some ⟨6,33,none⟩),.pointer (some b),.int .u64 130]]).run prog W
   = .ok (.tuple #[]) (W.setCell ta (.int .i64 n)):=by
 rw[rls]
 simp only[Sem.run_bind,qqt,qzq,Result.andThen]
 simp[ReflectliteValue.flagAddr,loadVar,isAgg,underlying,underlying33,hb,Result.andThen,qre,storeVar,Value.cells,storeCells,Addr.add]
 rw[run_store prog W ta _ _ (by rfl)]
 simp[ht,hf]
theorem zqc (n:Int) (w:World) (hg:w.cell? ⟨0,0,none⟩=some (.iface 183 (.agg #[.pointer (some ⟨6,29,none⟩)]))) :
  Calls prog 8 #[.iface 33 (.int .i64 n)] w fun e w'=>e=.returned (.int .i64 n)∧But [] w w':=by
 have h22:=@run_callFunc_extern prog 83 _ (fun args=>ReflectliteValue.unpack (args.getD 0 (.tuple #[]))) func83 (by kernel_rfl) (by kernel_rfl) (by kernel_rfl) (by kernel_rfl)
 have h23:=@run_callFunc_extern prog 84 _ (ReflectliteValue.methodAny (ReflectliteValue.valueError "reflectlite.Value.Type" 0) (fun t _ _ _=>ReflectliteType.toType t)) func84 (by kernel_rfl) (by kernel_rfl) (by kernel_rfl) (by kernel_rfl)
 have h24:=@run_callFunc_extern prog 85 _ (ReflectliteValue.method (ReflectliteValue.valueError "reflectlite.Value.IsNil" 0) ReflectliteValue.isNil) func85 (by kernel_rfl) (by kernel_rfl) (by kernel_rfl) (by kernel_rfl)
 have h128:=@run_callFunc_extern prog 224 _ (ReflectliteType.abiMethod fun t=>do pure (.int .u8 (← Rtype.kind t))) func224 (by kernel_rfl) (by kernel_rfl) (by kernel_rfl) (by kernel_rfl)
 have h141:=@run_callFunc_extern prog 236 _ (ReflectliteType.method ReflectliteType.elem) func236 (by kernel_rfl) (by kernel_rfl) (by kernel_rfl) (by kernel_rfl)
 have h142:=@run_callFunc_extern prog 237 _ (ReflectliteType.relation "Implements" ReflectliteType.implements_) func237 (by kernel_rfl) (by kernel_rfl) (by kernel_rfl) (by kernel_rfl)
 have h40:=@run_callFunc_extern prog 137 _ ReflectliteType.typeOf func137 (by kernel_rfl) (by kernel_rfl) (by kernel_rfl) (by kernel_rfl)
 have h139:=@run_callFunc_extern prog 234 _ (ReflectliteType.relation "AssignableTo" ReflectliteType.assignableTo) func234 (by kernel_rfl) (by kernel_rfl) (by kernel_rfl) (by kernel_rfl)
 have h41:=@run_callFunc_extern prog 138 _ (ReflectliteValue.method (ReflectliteValue.valueError "reflectlite.Value.Elem" 0) ReflectliteValue.elem) func138 (by kernel_rfl) (by kernel_rfl) (by kernel_rfl) (by kernel_rfl)
 have h42:=@run_callFunc_extern prog 139 _ ReflectliteValue.set func139 (by kernel_rfl) (by kernel_rfl) (by kernel_rfl) (by kernel_rfl)
 have tO:=qpj
 have mA:=zkh
 have aE:=qbv
 have vE:=qjj
 have vT:=qji
 have tT:=jac
 have mK:=qdm
 have mE:=qdn
 have mI:=znk
 have kT:=jag
 have kE:=jah
 have eT:=jai
 have iE:=qbi
 have nT:=qzt
 have eV:=qzy
 have st:=jal ⟨w.heap.size,0,none⟩ ⟨w.heap.size+1+1+1+1,0,none⟩ n (.int .i64 0) (((((w.alloc (.cells #[.int .i64 0] 33)).alloc (.cells #[.pointer (some ⟨w.heap.size,0,none⟩)] 90)).alloc (.cells #[.pointer (some ⟨6,90,none⟩),.pointer (some ⟨w.heap.size+1,0,none⟩),.int .u64 150] 136)).alloc (.cells #[.pointer (some ⟨6,90,none⟩),.pointer (some ⟨w.heap.size+1,0,none⟩),.int .u64 150] 136)).alloc (.cells #[.int .i64 n] 33))
  (by rw[World.cell?_alloc_at _ _ _ _ (by simp)];rfl)
  (by rw[World.cell?_alloc_lt _ _ _ (by simp;omega),World.cell?_alloc_lt _ _ _ (by simp;omega),World.cell?_alloc_lt _ _ _ (by simp;omega),World.cell?_alloc_lt _ _ _ (by simp),World.cell?_alloc_new];rfl)
  (by rw[World.frozen?_alloc_old _ _ _ (by simp;omega),World.frozen?_alloc_old _ _ _ (by simp;omega),World.frozen?_alloc_old _ _ _ (by simp;omega),World.frozen?_alloc_old _ _ _ (by simp),World.frozen?_alloc_new])
 have hlt : 0 < w.heap.size:=ai hg
 have hg3:∀ o1 o2 o3,(((w.alloc o1).alloc o2).alloc o3).cell? ⟨0,0,none⟩=some (.iface 183 (.agg #[.pointer (some ⟨6,29,none⟩)])):=fun o1 o2 o3=>by
  rw[World.cell?_alloc_lt _ _ ⟨0,0,none⟩ (by first | (simp;done) | (simp;omega)),World.cell?_alloc_lt _ _ ⟨0,0,none⟩ (by first | (simp;done) | (simp;omega)),World.cell?_alloc_lt _ _ ⟨0,0,none⟩ hlt];exact hg
 go_enter func8,ntmps8
 go_wp2
 refine wp_loop_rounds 1 ?_
 rw[rounds_succ]
 go_wp2
 go_ret
 refine⟨rfl,?_⟩
 repeat (first | exact But.refl _ _ | refine But.alloc ?_ _ | refine But.drew ?_ | refine But.setCell ?_ (.inr (by simp)) _)
end Go.Proofs.YtffghofheeleeaaGreatDoor
