/- Out of JM: what needs no more than these -/
import Derived.Test.YthlnhheblhapgaaGreatDoorProg
import Derived.LaidEql
import Derived.Stop.Asserts
import Derived.RowKitTokens
import Derived.Test.YthlnhheblhapgaaGreatDoorKMKNz
namespace Go.Proofs.YthlnhheblhapgaaGreatDoor
open Go.RowKit
def QrowsAt (w:World) (v:Value) (rs:List (List (Int × Int))):Prop:=∃ a cap,v=.slice a rs.length cap∧∀ i r,rs[i]? = some r→∃ b off u,a=some ⟨b,off,none⟩∧w.cell? ⟨b,off+i,none⟩=some u∧QsAt w u r
theorem QrowsAt.but {w w':World} {v:Value} {rs:List (List (Int × Int))} (h:QrowsAt w v rs) (hb:But [] w w'):QrowsAt w' v rs:=by
 obtain ⟨a,cap,e,h⟩:=h
 refine ⟨a,cap,e,fun i r hr=>?_⟩
 obtain ⟨b,off,u,e1,h1,h2⟩:=h i r hr
 exact ⟨b,off,u,e1,hb.cell_some h1 (by simp),h2.but hb⟩
theorem QrowsAt.at {w:World} {q:Option Addr} {n cap:Nat} {rs:List (List (Int × Int))} (h:QrowsAt w (.slice q n cap) rs) (i:Nat) (hi:i<n):∃ b off a c,q=some ⟨b,off,none⟩∧w.cell? ⟨b,off+i,none⟩=some (.slice a (rs[i]?.getD []).length c)∧QsAt w (.slice a (rs[i]?.getD []).length c) (rs[i]?.getD []):=by
 obtain ⟨a,cap',e,h⟩:=h
 simp only [Value.slice.injEq] at e
 obtain ⟨rfl,rfl,-⟩:=e
 obtain ⟨b,off,u,e1,h1,h2⟩:=h i rs[i] (List.getElem?_eq_getElem hi)
 rw [List.getElem?_eq_getElem hi,Option.getD_some]
 obtain ⟨a',c',rfl,h3,h4⟩:=id h2
 exact ⟨b,off,a',c',e1,h1,h2⟩
theorem ownsRow_base {w:World} {b0 b1:Nat} {e:TypeId} {size:Nat} {v:Value} {n:Nat} {xs:List Value} (h:w.ownsRow b1 e size v n xs) (hb:b0≤b1):w.ownsRow b0 e size v n xs:=by
 refine ⟨h.1,?_⟩
 rcases h.2 with h | ⟨g,cap,cur,e1,h2,h3⟩
 ·exact .inl h
 ·exact .inr ⟨g,cap,cur,e1,Nat.le_trans hb h2,h3⟩
theorem ownsRow_apart {w:World} {b0 b1:Nat} {e0 e1:TypeId} {s0 s1:Nat} {u v:Value} {n m:Nat} {xs ys:List Value} (h0:w.ownsRow b0 e0 s0 u n xs) (h1:w.ownsRow b1 e1 s1 v m ys) (hne:e0≠e1):u.ownBlock=none∨u.ownBlock≠v.ownBlock:=by
 rcases h0.2 with ⟨rfl,-⟩ | ⟨g,cap,cur,rfl,-,hg,-⟩
 ·exact .inl rfl
 ·rcases h1.2 with ⟨rfl,-⟩ | ⟨g',cap',cur',rfl,-,hg',-⟩
  ·exact .inr (by simp [Value.ownBlock])
  ·refine .inr (fun e=>hne ?_)
   simp only [Value.ownBlock,Option.some.injEq] at e
   subst e
   rw [hg] at hg'
   simp only [Option.some.injEq,Obj.cells.injEq] at hg'
   exact hg'.2.1
structure OwnF (w:World) (base:Nat) (u:Value) (fs:List Rat) (vs:List Value):Prop where
 own:w.ownsRow base 41 4 u fs.length (parts4 vs)
 len:vs.length=fs.length
 val:∀ (i:Nat) (f:Rat),fs[i]? = some f→∃ s x y p,vs[i]? = some (Value.agg #[.bool s,.int .u64 x,.int .u64 y,.pointer p])∧∀ W,FracAt W (.agg #[.bool s,.int .u64 x,.int .u64 y,.pointer p]) f
theorem OwnF.fracs {w:World} {base:Nat} {u:Value} {fs:List Rat} {vs:List Value} (h:OwnF w base u fs vs):FracsAt w u fs :=
 Holds4.fracs (base:=base) (e := 41) (vs:=vs) ⟨h.own,h.len,fun i f hf=>by
  obtain ⟨s,x,y,p,h1,h2⟩:=h.val i f hf
  exact ⟨s,x,y,p,h1,h2 w⟩⟩
theorem ownF_of {w:World} {b0 base:Nat} {u:Value} {fs:List Rat} {vs:List Value} (h:Holds4 w base 41 u fs vs) (lf:∀ f ∈ fs,Len f 1) (hb:b0≤base):OwnF w b0 u fs vs :=
 ⟨ownsRow_base h.own hb,h.len,fun i f hf=>by
  obtain ⟨s,x,y,p,h1,h2⟩:=h.val i f hf
  have hl:=(lf f (List.mem_of_getElem? hf)).lt
  rw [Nat.pow_one] at hl
  exact ⟨s,x,y,p,h1,fun W=>frac_anywhere h2 hl.1 hl.2 W⟩⟩
theorem OwnF.but {w w':World} {base:Nat} {u:Value} {fs:List Rat} {vs:List Value} (h:OwnF w base u fs vs) (hb:But [] w w'):OwnF w' base u fs vs:=⟨ownsRow_but h.own hb,h.len,h.val⟩
theorem append_row (w:World) (base:Nat) (v:Value) (k:Nat) (us:List Value) (hown:w.ownsRow base 32 1 v k us) (g:Nat) (a:Option Addr) (n c:Nat) (hc:w.cell? ⟨g,0,none⟩=some (.slice a n c)) (hk:k<1000000) (hb:base≤w.heap.size) :
  ∃ v' w',(Builtin.append_ #[52,52] 52 #[v,.slice (some ⟨g,0,none⟩) 1 1]).run Tryz.prog w=.ok v' w'∧w'.ownsRow base 32 1 v' (k+1) (us++[.slice a n c])∧w.grownBy w' v.ownBlock:=by
 obtain ⟨i0,hi,hz0,hz1,hz2⟩:=info_row
 obtain ⟨v',w',hr,ho,hg,-⟩:=run_append_own (P:=Tryz.prog) w base 52 52 32 i0 _ 1 24 Tryz.underlying52 hi hz0 hz1 hz2 rfl (by decide) v k us hown ⟨g,0,none⟩ 1 1 [.slice a n c] rfl (fun j u hj=>by
   have:j=0∨1≤j:=by omega
   rcases this with rfl | h1
   ·simp at hj;subst hj;exact hc
   ·rw [List.getElem?_eq_none (by simpa using h1)] at hj;simp at hj) (fun u hu=>by
   simp only [List.mem_cons,List.not_mem_nil,or_false] at hu
   subst hu;rfl) (by unfold maxLen;omega) (by omega) hb
 exact ⟨v',w',hr,ho,hg⟩
def rowsF (rs:List (List (Int × Int))):List (List Rat):=rs.map fun r=>r.map qf
end Go.Proofs.YthlnhheblhapgaaGreatDoor

namespace Go.Proofs.YthlnhheblhapgaaGreatDoor
open Go.RowKit Go.Extern.Stop Go.Stop Go.Extern
set_option maxHeartbeats 8000000
set_option maxRecDepth 100000
theorem valueOfT (t:Addr) (w:World):(ReflectliteValue.unpack (.iface 84 (.pointer (some t)))).run Tryz.prog w
  = .ok (.agg #[.pointer (some ⟨7,84,none⟩),.pointer (some ⟨w.heap.size,0,none⟩),.int .u64 150]) (w.alloc (.cells #[.pointer (some t)] 84)):=by kernel_rfl
theorem typeT (a:Addr) (w:World):(ReflectliteValue.methodAny (ReflectliteValue.valueError "reflectlite.Value.Type" 0) (fun t _ _ _=>ReflectliteType.toType t) #[.agg #[.pointer (some ⟨7,84,none⟩),.pointer (some a),.int .u64 150]]).run Tryz.prog w
  = .ok (.iface 144 (.agg #[.pointer (some ⟨7,84,none⟩)])) w:=by kernel_rfl
theorem kindT (w:World):((ReflectliteType.abiMethod fun t=>(fun a:Nat=>Value.int IntKind.u8 (a:Int)) <$> Rtype.kind t) #[.pointer (some ⟨7,84,none⟩)]).run Tryz.prog w=.ok (.int .u8 22) w:=by kernel_rfl
theorem kindE (w:World):((ReflectliteType.abiMethod fun t=>(fun a:Nat=>Value.int IntKind.u8 (a:Int)) <$> Rtype.kind t) #[.pointer (some ⟨7,26,none⟩)]).run Tryz.prog w=.ok (.int .u8 2) w:=by kernel_rfl
theorem valueOfE (n:Int) (w:World):(ReflectliteValue.unpack (.iface 26 (.int .i64 n))).run Tryz.prog w
  = .ok (.agg #[.pointer (some ⟨7,26,none⟩),.pointer (some ⟨w.heap.size,0,none⟩),.int .u64 130]) (w.alloc (.cells #[.int .i64 n] 26)):=by kernel_rfl
theorem methodKind (h:Value) (w:World):(Go.method 333 144 (.agg #[h]) "Kind").run Tryz.prog w=.ok (169,h) w:=by kernel_rfl
theorem methodElem (h:Value) (w:World):(Go.method 333 144 (.agg #[h]) "Elem").run Tryz.prog w=.ok (180,.agg #[h]) w:=by kernel_rfl
theorem methodImplements (h:Value) (w:World):(Go.method 333 144 (.agg #[h]) "Implements").run Tryz.prog w=.ok (181,.agg #[h]) w:=by kernel_rfl
theorem methodAssignableTo (h:Value) (w:World):(Go.method 333 144 (.agg #[h]) "AssignableTo").run Tryz.prog w=.ok (178,.agg #[h]) w:=by kernel_rfl
theorem rlm (z:Sem Value) (f:TypeId→Addr→Nat→Nat→Sem Value) (v:Value) :
  ReflectliteValue.method z f #[v]=(do match ← ReflectliteValue.parts v with | none=>z | some (t,a,fl)=>f t a fl (fl%32)):=rfl
theorem partsT (a:Addr) (w:World):(ReflectliteValue.parts (.agg #[.pointer (some ⟨7,84,none⟩),.pointer (some a),.int .u64 150])).run Tryz.prog w=.ok (some (84,a,150)) w:=by kernel_rfl
theorem isNilT (a p:Addr) (W:World) (ha:W.cell? a=some (.pointer (some p))) :
  (ReflectliteValue.method (ReflectliteValue.valueError "reflectlite.Value.IsNil" 0) ReflectliteValue.isNil #[.agg #[.pointer (some ⟨7,84,none⟩),.pointer (some a),.int .u64 150]]).run Tryz.prog W=.ok (.bool false) W:=by
 rw [rlm]
 simp only [Sem.run_bind,partsT,Result.andThen]
 simp [ReflectliteValue.isNil,loadVar,isAgg,underlying,Tryz.underlying84,ha,Result.andThen]
theorem elemT (w:World):(ReflectliteType.method ReflectliteType.elem #[.agg #[.pointer (some ⟨7,84,none⟩)]]).run Tryz.prog w=.ok (.iface 144 (.agg #[.pointer (some ⟨7,26,none⟩)])) w:=by kernel_rfl
theorem implementsE (w:World):(ReflectliteType.relation "Implements" ReflectliteType.implements_ #[.agg #[.pointer (some ⟨7,26,none⟩)],.iface 144 (.agg #[.pointer (some ⟨7,34,none⟩)])]).run Tryz.prog w=.ok (.bool true) w:=by kernel_rfl
theorem typeOfE (v:Value) (w:World):(ReflectliteType.typeOf #[.iface 26 v]).run Tryz.prog w=.ok (.iface 144 (.agg #[.pointer (some ⟨7,26,none⟩)])) w:=by kernel_rfl
theorem assignableE (w:World):(ReflectliteType.relation "AssignableTo" ReflectliteType.assignableTo #[.agg #[.pointer (some ⟨7,26,none⟩)],.iface 144 (.agg #[.pointer (some ⟨7,26,none⟩)])]).run Tryz.prog w=.ok (.bool true) w:=by kernel_rfl
theorem elemOfT (w:World):(Rtype.elem? 84).run Tryz.prog w=.ok (some 26) w:=by kernel_rfl
theorem mkE (p:Addr) (w:World):(ReflectliteValue.mk 26 p ReflectliteValue.flagAddr).run Tryz.prog w=.ok (.agg #[.pointer (some ⟨7,26,none⟩),.pointer (some p),.int .u64 386]) w:=by kernel_rfl
theorem elemVT (a p:Addr) (W:World) (ha:W.cell? a=some (.pointer (some p))) :
  (ReflectliteValue.method (ReflectliteValue.valueError "reflectlite.Value.Elem" 0) ReflectliteValue.elem #[.agg #[.pointer (some ⟨7,84,none⟩),.pointer (some a),.int .u64 150]]).run Tryz.prog W
   = .ok (.agg #[.pointer (some ⟨7,26,none⟩),.pointer (some p),.int .u64 386]) W:=by
 rw [rlm]
 simp only [Sem.run_bind,partsT,Result.andThen]
 simp [ReflectliteValue.elem,loadVar,isAgg,underlying,Tryz.underlying84,ha,Result.andThen,elemOfT,mkE]
theorem rls (v x:Value):ReflectliteValue.set #[v,x]=(do
  let (some (dst,a,fl),some (src,b,_)):=(← ReflectliteValue.parts v,← ReflectliteValue.parts x)
   | unsupported (.noEntry "extern/(internal/reflectlite.Value).Set.zeroValue")
  if fl/ReflectliteValue.flagAddr%2==0 then unsupported (.noEntry "extern/(internal/reflectlite.Value).Set.unaddressable")
  let val ← loadVar src b
  if ← Rtype.directlyAssignable dst src then storeVar dst a val
  else if ← Rtype.implements dst src then
   if (← Rtype.kind src)==20 then
    match val with
    | .nilIface=>unsupported (.noEntry "extern/reflectlite: a nil value of one interface type handed on as a value of another")
    | _=>storeVar dst a val
   else storeVar dst a (.iface src val)
  else panicString ("reflectlite.Set: value of type "++(← Rtype.spelt src)++ " is not assignable to type "++(← Rtype.spelt dst))
  pure (.tuple #[])):=rfl
theorem partsEa (a:Addr) (w:World):(ReflectliteValue.parts (.agg #[.pointer (some ⟨7,26,none⟩),.pointer (some a),.int .u64 386])).run Tryz.prog w=.ok (some (26,a,386)) w:=by kernel_rfl
theorem partsE (a:Addr) (w:World):(ReflectliteValue.parts (.agg #[.pointer (some ⟨7,26,none⟩),.pointer (some a),.int .u64 130])).run Tryz.prog w=.ok (some (26,a,130)) w:=by kernel_rfl
theorem directE (w:World):(Rtype.directlyAssignable 26 26).run Tryz.prog w=.ok true w:=by kernel_rfl
theorem setE (ta b:Addr) (n:Int) (old:Value) (W:World) (hb:W.cell? b=some (.int .i64 n)) (ht:W.cell? ta=some old) (hf:W.frozen? ta=false) :
  (ReflectliteValue.set #[.agg #[.pointer (some ⟨7,26,none⟩),.pointer (some ta),.int .u64 386],.agg #[.pointer (some ⟨7,26,none⟩),.pointer (some b),.int .u64 130]]).run Tryz.prog W
   = .ok (.tuple #[]) (W.setCell ta (.int .i64 n)):=by
 rw [rls]
 simp only [Sem.run_bind,partsEa,partsE,Result.andThen]
 simp [ReflectliteValue.flagAddr,loadVar,isAgg,underlying,Tryz.underlying26,hb,Result.andThen,directE,storeVar,Value.cells,storeCells,Addr.add]
 rw [run_store Tryz.prog W ta _ _ (by rfl)]
 simp [ht,hf]
theorem tell_errno (n:Int) (w:World) (hg:w.cell? ⟨0,0,none⟩=some (.iface 144 (.agg #[.pointer (some ⟨7,34,none⟩)]))) :
  Calls Tryz.prog 21 #[.iface 26 (.int .i64 n)] w fun e w'=>e=.returned (.int .i64 n)∧But [] w w':=by
 have h22:=@run_callFunc_extern Tryz.prog 63 _ (fun args=>ReflectliteValue.unpack (args.getD 0 (.tuple #[]))) Tryz.func63 (by kernel_rfl) (by kernel_rfl) (by kernel_rfl) (by kernel_rfl)
 have h23:=@run_callFunc_extern Tryz.prog 64 _ (ReflectliteValue.methodAny (ReflectliteValue.valueError "reflectlite.Value.Type" 0) (fun t _ _ _=>ReflectliteType.toType t)) Tryz.func64 (by kernel_rfl) (by kernel_rfl) (by kernel_rfl) (by kernel_rfl)
 have h24:=@run_callFunc_extern Tryz.prog 65 _ (ReflectliteValue.method (ReflectliteValue.valueError "reflectlite.Value.IsNil" 0) ReflectliteValue.isNil) Tryz.func65 (by kernel_rfl) (by kernel_rfl) (by kernel_rfl) (by kernel_rfl)
 have h128:=@run_callFunc_extern Tryz.prog 169 _ (ReflectliteType.abiMethod fun t=>do pure (.int .u8 (← Rtype.kind t))) Tryz.func169 (by kernel_rfl) (by kernel_rfl) (by kernel_rfl) (by kernel_rfl)
 have h141:=@run_callFunc_extern Tryz.prog 180 _ (ReflectliteType.method ReflectliteType.elem) Tryz.func180 (by kernel_rfl) (by kernel_rfl) (by kernel_rfl) (by kernel_rfl)
 have h142:=@run_callFunc_extern Tryz.prog 181 _ (ReflectliteType.relation "Implements" ReflectliteType.implements_) Tryz.func181 (by kernel_rfl) (by kernel_rfl) (by kernel_rfl) (by kernel_rfl)
 have h40:=@run_callFunc_extern Tryz.prog 90 _ ReflectliteType.typeOf Tryz.func90 (by kernel_rfl) (by kernel_rfl) (by kernel_rfl) (by kernel_rfl)
 have h139:=@run_callFunc_extern Tryz.prog 178 _ (ReflectliteType.relation "AssignableTo" ReflectliteType.assignableTo) Tryz.func178 (by kernel_rfl) (by kernel_rfl) (by kernel_rfl) (by kernel_rfl)
 have h41:=@run_callFunc_extern Tryz.prog 91 _ (ReflectliteValue.method (ReflectliteValue.valueError "reflectlite.Value.Elem" 0) ReflectliteValue.elem) Tryz.func91 (by kernel_rfl) (by kernel_rfl) (by kernel_rfl) (by kernel_rfl)
 have h42:=@run_callFunc_extern Tryz.prog 92 _ ReflectliteValue.set Tryz.func92 (by kernel_rfl) (by kernel_rfl) (by kernel_rfl) (by kernel_rfl)
 have tO:=typeOfE
 have mA:=methodAssignableTo
 have aE:=assignableE
 have vE:=valueOfE
 have vT:=valueOfT
 have tT:=typeT
 have mK:=methodKind
 have mE:=methodElem
 have mI:=methodImplements
 have kT:=kindT
 have kE:=kindE
 have eT:=elemT
 have iE:=implementsE
 have nT:=isNilT
 have eV:=elemVT
 have st:=setE ⟨w.heap.size,0,none⟩ ⟨w.heap.size+1+1+1+1,0,none⟩ n (.int .i64 0) (((((w.alloc (.cells #[.int .i64 0] 26)).alloc (.cells #[.pointer (some ⟨w.heap.size,0,none⟩)] 84)).alloc (.cells #[.pointer (some ⟨7,84,none⟩),.pointer (some ⟨w.heap.size+1,0,none⟩),.int .u64 150] 110)).alloc (.cells #[.pointer (some ⟨7,84,none⟩),.pointer (some ⟨w.heap.size+1,0,none⟩),.int .u64 150] 110)).alloc (.cells #[.int .i64 n] 26))
  (by rw [World.cell?_alloc_at _ _ _ _ (by simp)];rfl)
  (by rw [World.cell?_alloc_lt _ _ _ (by simp;omega),World.cell?_alloc_lt _ _ _ (by simp;omega),World.cell?_alloc_lt _ _ _ (by simp;omega),World.cell?_alloc_lt _ _ _ (by simp),World.cell?_alloc_new];rfl)
  (by rw [World.frozen?_alloc_old _ _ _ (by simp;omega),World.frozen?_alloc_old _ _ _ (by simp;omega),World.frozen?_alloc_old _ _ _ (by simp;omega),World.frozen?_alloc_old _ _ _ (by simp),World.frozen?_alloc_new])
 have hlt : 0 < w.heap.size:=lt_of_cell hg
 have hg3:∀ o1 o2 o3,(((w.alloc o1).alloc o2).alloc o3).cell? ⟨0,0,none⟩=some (.iface 144 (.agg #[.pointer (some ⟨7,34,none⟩)])):=fun o1 o2 o3=>by
  rw [World.cell?_alloc_lt _ _ ⟨0,0,none⟩ (by first | (simp;done) | (simp;omega)),World.cell?_alloc_lt _ _ ⟨0,0,none⟩ (by first | (simp;done) | (simp;omega)),World.cell?_alloc_lt _ _ ⟨0,0,none⟩ hlt];exact hg
 go_enter Tryz.func21,Tryz.ntmps21
 go_wp2
 refine wp_loop_rounds 1 ?_
 rw [rounds_succ]
 go_wp2
 go_ret
 refine ⟨rfl,?_⟩
 repeat (first | exact But.refl _ _ | refine But.alloc ?_ _ | refine But.drew ?_ | refine But.setCell ?_ (.inr (by simp)) _)
end Go.Proofs.YthlnhheblhapgaaGreatDoor

namespace Go.Proofs.YthlnhheblhapgaaGreatDoor
open Go.RowKit
set_option maxHeartbeats 32000000
set_option maxRecDepth 100000
def OwnM (w:World) (base:Nat) (v:Value) (ls:List (List Rat)):Prop:=∃ us:List Value,w.ownsRow base 32 1 v ls.length us∧∀ (i:Nat) (l:List Rat),ls[i]? = some l→∃ u vs,us[i]? = some u∧OwnF w base u l vs
theorem OwnM.but {w w':World} {base:Nat} {v:Value} {ls:List (List Rat)} (h:OwnM w base v ls) (hb:But [] w w'):OwnM w' base v ls:=by
 obtain ⟨us,h1,h2⟩:=h
 exact ⟨us,ownsRow_but h1 hb,fun i l hl=>(h2 i l hl).elim fun u ⟨vs,h3,h4⟩=>⟨u,vs,h3,h4.but hb⟩⟩
theorem OwnM.base {w:World} {b0 b1:Nat} {v:Value} {ls:List (List Rat)} (h:OwnM w b1 v ls) (hb:b0≤b1):OwnM w b0 v ls:=by
 obtain ⟨us,h1,h2⟩:=h
 exact ⟨us,ownsRow_base h1 hb,fun i l hl=>(h2 i l hl).elim fun u ⟨vs,h3,h4⟩=>⟨u,vs,h3,ownsRow_base h4.own hb,h4.len,h4.val⟩⟩
theorem OwnM.kept {w w':World} {base b1:Nat} {v u:Value} {ls:List (List Rat)} {n:Nat} {xs:List Value} (h:OwnM w base v ls) (ho:w.ownsRow b1 53 1 u n xs) (hg:w.grownBy w' u.ownBlock):OwnM w' base v ls:=by
 obtain ⟨us,h1,h2⟩:=h
 exact ⟨us,h1.kept hg (ownsRow_apart h1 ho (by decide)),fun i l hl=>(h2 i l hl).elim fun u ⟨vs,h3,h4⟩=>⟨u,vs,h3,h4.own.kept hg (ownsRow_apart h4.own ho (by decide)),h4.len,h4.val⟩⟩
theorem OwnM.lists {w:World} {base:Nat} {v:Value} {ls:List (List Rat)} (h:OwnM w base v ls):ListsAt w v ls:=by
 obtain ⟨us,hus,hall⟩:=h
 obtain ⟨a',c',rfl⟩:=ownsRow_form hus
 have hcap:ls.length≤c':=by
  rcases hus.2 with ⟨h1,h2⟩ | ⟨g,cap,cur,h1,-,-,h2,-⟩
  ·simp only [Value.slice.injEq] at h1
   omega
  ·simp only [Value.slice.injEq] at h1
   omega
 refine ⟨a',c',rfl,hcap,fun i l hil=>?_⟩
 have hik:i<ls.length:=(List.getElem?_eq_some_iff.1 hil).1
 obtain ⟨u,vs,h1,h2⟩:=hall i l hil
 rcases hus.2 with ⟨h3,h4⟩ | ⟨g,cap,cur,h3,-⟩
 ·omega
 ·simp only [Value.slice.injEq] at h3
  obtain ⟨rfl,-,rfl⟩:=h3
  refine ⟨g,0,u,rfl,?_,h2.fracs⟩
  have:=hus.cellAt i (by omega)
  rw [Nat.zero_add,this,h1]
theorem plainRows_own (q:Option Addr) (n cap:Nat) (rs:List (List (Int × Int))) (w:World) (hv:QrowsAt w (.slice q n cap) rs) (hN:n=rs.length) (hn:n≤1000) (hl:∀ i,i<n→(rs[i]?.getD []).length≤1000) (hf:∀ r ∈ rs,∀ z ∈ r,Fits z) :
  Calls Tryz.prog 19 #[.slice q n cap] w fun e w'=>∃ a c,e=.returned (.slice a n c)∧OwnM w' w.heap.size (.slice a n c) (rowsF rs)∧But [] w w':=by
 have hmem:∀ i,i<n→∀ z ∈ rs[i]?.getD [],Fits z:=fun i hi=>by
  rw [List.getElem?_eq_getElem (by omega),Option.getD_some]
  exact hf _ (List.getElem_mem _)
 have FS:Hid (∀ i,i<n→∀ W v,QsAt W v (rs[i]?.getD [])→Calls Tryz.prog 10 #[v] W fun e w'=>∃ a c vs,e=.returned (.slice a (rs[i]?.getD []).length c)∧OwnF w' W.heap.size (.slice a (rs[i]?.getD []).length c) ((rs[i]?.getD []).map qf) vs∧But [] W w'):=fun i hi W v hq=>by
  refine (plainFs_any v _ W hq (hmem i hi) (hl i hi)).mono ?_
  rintro e w' ⟨v',vs,e1,h1,h2⟩
  obtain ⟨a,c,hac⟩:=ownsRow_form h1.own
  rw [List.length_map] at hac
  subst hac
  refine ⟨a,c,vs,e1,ownF_of h1 (fun f hf'=>?_) (Nat.le_refl _),h2⟩
  obtain ⟨z,hz,rfl⟩:=List.mem_map.1 hf'
  obtain ⟨-,-,-,h,-⟩:=plainF_at z (hmem i hi z hz)
  exact h
 have HV:=hide hv
 have HN:=hide hN
 clear hv hN hl hf hmem
 go_enter Tryz.func19,Tryz.ntmps19
 go_wp2
 go_loopw [3,8] (fun o iv wr=>∃ k:Nat,k≤n∧iv=.int .i64 (k:Int)∧Hid ((∃ us:List Value,wr.ownsRow w.heap.size 32 1 o k us∧∀ i,i<k→∃ u vs,us[i]? = some u∧OwnF wr w.heap.size u ((rs[i]?.getD []).map qf) vs)∧But [] w wr)) (fun _ iv _=>n-(intOf iv).toNat)
 case atStart=>exact ⟨0,Nat.zero_le _,rfl,⟨[],World.ownsRow_nil _ _ _ _,fun i hi=>absurd hi (by omega)⟩,But.refl _ _⟩
 case round =>
  obtain ⟨k,hk,rfl,HI⟩:=hrel
  rename World=>wr
  by_cases hlt:k<n
  ·obtain ⟨b,off,ak,ck,rfl,hck,hqk⟩:=((unhide HV).but (unhide HI).2).at k hlt
   have FK:=hide (unhide FS k hlt wr _ hqk)
   obtain ⟨lk,hlk⟩:∃ lk,lk=(rs[k]?.getD []).length:=⟨_,rfl⟩
   rw [← hlk] at hck FK
   clear hqk hlk
   go_wp2_with fail
   refine (unhide FK).mono ?_
   rintro e w1 ⟨a1,c1,vs,rfl,ho1,hb1⟩
   obtain ⟨V,hV⟩:∃ V,V=w1.alloc (.cells #[.slice a1 lk c1] 32):=⟨_,rfl⟩
   have bV1:But [] w1 V:=by rw [hV];exact (But.refl _ _).alloc _
   have cc:V.cell? ⟨w1.heap.size,0,none⟩=some (.slice a1 lk c1):=by rw [hV];simp
   have bV:But [] wr V:=hb1.trans' bV1
   obtain ⟨⟨us,hus,hall⟩,hbw⟩:=unhide HI
   have oV:=ownsRow_but hus bV
   obtain ⟨v',w',hr,ho,hg⟩:=append_row V w.heap.size u3 k us oV w1.heap.size a1 lk c1 cc (by omega) (hbw.trans' bV).size
   have BF:Hid (But [] w w'):=but_of_grown (hbw.trans' bV) oV (Nat.le_refl _) hg
   have keep:∀ (u:Value) (fs:List Rat) (vs:List Value),OwnF V w.heap.size u fs vs→OwnF w' w.heap.size u fs vs:=fun u fs vs h=>⟨h.own.kept hg (ownsRow_apart h.own oV (by decide)),h.len,h.val⟩
   have hul:us.length=k:=by have:=hus.1;omega
   have JJ:Hid ((∃ us:List Value,w'.ownsRow w.heap.size 32 1 v' (k+1) us∧∀ i,i<k+1→∃ u vs,us[i]? = some u∧OwnF w' w.heap.size u ((rs[i]?.getD []).map qf) vs)∧But [] w w'):=by
    refine ⟨⟨_,ho,fun i hi=>?_⟩,unhide BF⟩
    by_cases e:i=k
    ·subst e
     refine ⟨.slice a1 lk c1,vs,by rw [List.getElem?_append_right (by omega),hul,Nat.sub_self];rfl,keep _ _ _ ?_⟩
     have h1:=ho1.but bV1
     exact ⟨ownsRow_base h1.own hbw.size,h1.len,h1.val⟩
    ·obtain ⟨u,vs',h1,h2⟩:=hall i (by omega)
     exact ⟨u,vs',by rw [List.getElem?_append_left (by omega)];exact h1,keep _ _ _ (h2.but bV)⟩
   rw [hV] at hr
   have HR:=hide hr
   clear hr ho hg oV bV bV1 cc hV hus hall hbw ho1 hb1 keep HI hck FK BF hul
   go_wp2_with (at_builtin;refine wpList_app rfl _ _ 52 52 rfl _ _ v' w' rfl rfl (unhide HR) ?_)
   exact ⟨⟨k+1,by omega,by go_num,unhide JJ⟩,by simp [intOf];omega⟩
  ·obtain rfl:k=n:=by omega
   obtain ⟨⟨us,hus,hall⟩,hbw⟩:=unhide HI
   obtain ⟨a',c',rfl⟩:=ownsRow_form hus
   have JJ:Hid (OwnM wr w.heap.size (.slice a' k c') (rowsF rs)):=by
    have hlen:(rowsF rs).length=k:=by unfold rowsF;rw [List.length_map];exact (unhide HN).symm
    refine ⟨us,by rw [hlen];exact hus,fun i l hil=>?_⟩
    have hik:i<k:=by rw [← hlen];exact (List.getElem?_eq_some_iff.1 hil).1
    obtain ⟨u,vs,h1,h2⟩:=hall i hik
    have hl:l=(rs[i]?.getD []).map qf:=by
     unfold rowsF at hil
     rw [List.getElem?_map,List.getElem?_eq_getElem (by have:=unhide HN;omega)] at hil
     rw [List.getElem?_eq_getElem (by have:=unhide HN;omega),Option.getD_some]
     exact (Option.some.inj hil).symm
    exact ⟨u,vs,h1,by rw [hl];exact h2⟩
   have JB:=hide hbw
   clear hus hall hbw HI
   go_wp2
   go_ret
   exact ⟨_,_,rfl,unhide JJ,unhide JB⟩
def QyearsAt (w:World) (v:Value) (rss:List (List (List (Int × Int)))):Prop:=∃ a cap,v=.slice a rss.length cap∧∀ i rs,rss[i]? = some rs→∃ b off u,a=some ⟨b,off,none⟩∧w.cell? ⟨b,off+i,none⟩=some u∧QrowsAt w u rs
theorem QyearsAt.but {w w':World} {v:Value} {rss:List (List (List (Int × Int)))} (h:QyearsAt w v rss) (hb:But [] w w'):QyearsAt w' v rss:=by
 obtain ⟨a,cap,e,h⟩:=h
 refine ⟨a,cap,e,fun i r hr=>?_⟩
 obtain ⟨b,off,u,e1,h1,h2⟩:=h i r hr
 exact ⟨b,off,u,e1,hb.cell_some h1 (by simp),h2.but hb⟩
theorem QyearsAt.at {w:World} {q:Option Addr} {n cap:Nat} {rss:List (List (List (Int × Int)))} (h:QyearsAt w (.slice q n cap) rss) (i:Nat) (hi:i<n):∃ b off a c rs,q=some ⟨b,off,none⟩∧rss[i]? = some rs∧w.cell? ⟨b,off+i,none⟩=some (.slice a rs.length c)∧QrowsAt w (.slice a rs.length c) rs:=by
 obtain ⟨a,cap',e,h⟩:=h
 simp only [Value.slice.injEq] at e
 obtain ⟨rfl,rfl,-⟩:=e
 obtain ⟨b,off,u,e1,h1,h2⟩:=h i rss[i] (List.getElem?_eq_getElem hi)
 obtain ⟨a',c',rfl,-⟩:=id h2
 exact ⟨b,off,a',c',rss[i],e1,List.getElem?_eq_getElem hi,h1,h2⟩
def yearsF (rss:List (List (List (Int × Int)))):List (List (List Rat)):=rss.map rowsF
theorem append_mat (w:World) (base:Nat) (v:Value) (k:Nat) (us:List Value) (hown:w.ownsRow base 53 1 v k us) (g:Nat) (a:Option Addr) (n c:Nat) (hc:w.cell? ⟨g,0,none⟩=some (.slice a n c)) (hk:k<1000000) (hb:base≤w.heap.size) :
  ∃ v' w',(Builtin.append_ #[51,51] 51 #[v,.slice (some ⟨g,0,none⟩) 1 1]).run Tryz.prog w=.ok v' w'∧w'.ownsRow base 53 1 v' (k+1) (us++[.slice a n c])∧w.grownBy w' v.ownBlock:=by
 have hinf:∃ i,Tryz.prog.info? 53 = some i∧i.zero=some (.slice none 0 0)∧i.size=1∧i.bytes=24:=by
  have h:(Tryz.prog.info? 53).map (fun i=>(i.zero,i.size,i.bytes))=some (some (.slice none 0 0),1,24):=by kernel_rfl
  cases e:Tryz.prog.info? 53 with
  | none=>rw [e] at h;simp at h
  | some i =>
   rw [e] at h
   simp only [Option.map_some,Option.some.injEq,Prod.mk.injEq] at h
   exact ⟨i,rfl,h.1,h.2.1,h.2.2⟩
 obtain ⟨i0,hi,hz0,hz1,hz2⟩:=hinf
 obtain ⟨v',w',hr,ho,hg,-⟩:=run_append_own (P:=Tryz.prog) w base 51 51 53 i0 _ 1 24 Tryz.underlying51 hi hz0 hz1 hz2 rfl (by decide) v k us hown ⟨g,0,none⟩ 1 1 [.slice a n c] rfl (fun j u hj=>by
   have:j=0∨1≤j:=by omega
   rcases this with rfl | h1
   ·simp at hj;subst hj;exact hc
   ·rw [List.getElem?_eq_none (by simpa using h1)] at hj;simp at hj) (fun u hu=>by
   simp only [List.mem_cons,List.not_mem_nil,or_false] at hu
   subst hu;rfl) (by unfold maxLen;omega) (by omega) hb
 exact ⟨v',w',hr,ho,hg⟩
theorem tellG_nil (w:World):Calls Tryz.prog 21 #[.nilIface] w fun e w'=>e=.returned (.int .i64 0)∧But [] w w':=by
 go_enter Tryz.func21,Tryz.ntmps21
 go_wp2
 go_ret
 exact ⟨rfl,But.refl _ _⟩
def ErrVarG (w:World):Prop:=w.cell? ⟨0,0,none⟩=some (.iface 144 (.agg #[.pointer (some ⟨7,34,none⟩)]))
def PChPost (yss:List (List (List Rat))) (w:World) (e:Ending) (w':World):Prop:=But [] w w' ∧
 ((ChainOk yss∧∃ g,e=.returned (.tuple #[.pointer (some ⟨g,0,none⟩),.int .i64 0])∧ChainAt w' g yss.length (yss[0]?.getD []).length (fun j=>yrM (yss[j]?.getD [])) (fun j=>yrU (yss[j]?.getD []))) ∨
 (¬ ChainOk yss∧∃ c:Int,0<c∧c<16∧e=.returned (.tuple #[.pointer none,.int .i64 c])))
theorem plainChain_any (q:Option Addr) (n cap:Nat) (rss:List (List (List (Int × Int)))) (m:Int) (w:World) (hv:QyearsAt w (.slice q n cap) rss) (hN:n=rss.length) (hn:n≤1000) (hl:∀ rs ∈ rss,rs.length≤1000∧∀ r ∈ rs,r.length≤1000) (hf:∀ rs ∈ rss,∀ r ∈ rs,∀ z ∈ r,Fits z) (hg:ErrVarG w) (htab:Lib.TabIs Tryz.prog w "internal/strconv.uint64pow10" .u64 Lib.pow10Tab) (hm:w.cell? ⟨4,0,none⟩=some (.int .i64 m)) :
  Calls Tryz.prog 5 #[.slice q n cap] w (PChPost (yearsF rss) w):=by
 have RO:=hide (fun W (u:Value) a c rs (hrs:rs ∈ rss) (hv:QrowsAt W (.slice a rs.length c) rs)=>plainRows_own a rs.length c rs W hv rfl (hl rs hrs).1 (fun i hi=>(hl rs hrs).2 _ (by rw [List.getElem?_eq_getElem hi,Option.getD_some];exact List.getElem_mem _)) (hf rs hrs))
 have NW:=hide (fun W v (hb:But [] w W) (hv:MatsAt W v (yearsF rss))=>chainNew_any v (yearsF rss) m W hv (by unfold yearsF;rw [List.length_map];omega) (fun ls hls=>by
  obtain ⟨rs,hrs,rfl⟩:=List.mem_map.1 hls
  refine ⟨by unfold rowsF;rw [List.length_map];have:=(hl rs hrs).1;omega,fun l hl'=>?_⟩
  obtain ⟨r,hr,rfl⟩:=List.mem_map.1 hl'
  rw [List.length_map]
  have:=(hl rs hrs).2 r hr
  omega) (fun ls hls l hl' f hf'=>by
  obtain ⟨rs,hrs,rfl⟩:=List.mem_map.1 hls
  obtain ⟨r,hr,rfl⟩:=List.mem_map.1 hl'
  obtain ⟨z,hz,rfl⟩:=List.mem_map.1 hf'
  obtain ⟨_,_,_,h,-⟩:=plainF_at z (hf rs hrs r hr z hz)
  exact h) (TabIs.but htab hb) (hb.cell_some hm (by simp)))
 have TE:=hide (fun k W (hb:But [] w W)=>tell_errno k W (hb.cell_some hg (by simp)))
 have HV:=hide hv
 have HN:=hide hN
 clear hv hN hl hf hg htab hm
 go_enter Tryz.func5,Tryz.ntmps5
 go_wp2
 go_loopw [4,11] (fun o iv wr=>∃ k:Nat,k≤n∧iv=.int .i64 (k:Int)∧Hid ((∃ us:List Value,wr.ownsRow w.heap.size 53 1 o k us∧∀ i,i<k→∃ u,us[i]? = some u∧OwnM wr w.heap.size u (rowsF (rss[i]?.getD [])))∧But [] w wr)) (fun _ iv _=>n-(intOf iv).toNat)
 case atStart=>exact ⟨0,Nat.zero_le _,rfl,⟨[],World.ownsRow_nil _ _ _ _,fun i hi=>absurd hi (by omega)⟩,But.refl _ _⟩
 case round =>
  obtain ⟨k,hk,rfl,HI⟩:=hrel
  rename World=>wr
  by_cases hlt:k<n
  ·obtain ⟨b,off,ak,ck,rs,rfl,hrs,hck,hqk⟩:=((unhide HV).but (unhide HI).2).at k hlt
   have FK:=hide (unhide RO wr (.slice ak rs.length ck) ak ck rs (List.mem_of_getElem? hrs) hqk)
   obtain ⟨lk,hlk⟩:∃ lk,lk=rs.length:=⟨_,rfl⟩
   rw [← hlk] at hck FK
   have HRS:=hide hrs
   clear hqk hlk hrs
   go_wp2_with fail
   refine (unhide FK).mono ?_
   rintro e w1 ⟨a1,c1,rfl,ho1,hb1⟩
   obtain ⟨V,hV⟩:∃ V,V=w1.alloc (.cells #[.slice a1 lk c1] 53):=⟨_,rfl⟩
   have bV1:But [] w1 V:=by rw [hV];exact (But.refl _ _).alloc _
   have cc:V.cell? ⟨w1.heap.size,0,none⟩=some (.slice a1 lk c1):=by rw [hV];simp
   have bV:But [] wr V:=hb1.trans' bV1
   obtain ⟨⟨us,hus,hall⟩,hbw⟩:=unhide HI
   have oV:=ownsRow_but hus bV
   obtain ⟨v',w',hr,ho,hg⟩:=append_mat V w.heap.size u4 k us oV w1.heap.size a1 lk c1 cc (by omega) (hbw.trans' bV).size
   have BF:Hid (But [] w w'):=but_of_grown (hbw.trans' bV) oV (Nat.le_refl _) hg
   have hul:us.length=k:=by have:=hus.1;omega
   have JJ:Hid ((∃ us:List Value,w'.ownsRow w.heap.size 53 1 v' (k+1) us∧∀ i,i<k+1→∃ u,us[i]? = some u∧OwnM w' w.heap.size u (rowsF (rss[i]?.getD [])))∧But [] w w'):=by
    refine ⟨⟨_,ho,fun i hi=>?_⟩,unhide BF⟩
    by_cases e:i=k
    ·subst e
     refine ⟨.slice a1 lk c1,by rw [List.getElem?_append_right (by omega),hul,Nat.sub_self];rfl,?_⟩
     rw [unhide HRS,Option.getD_some]
     exact ((ho1.but bV1).base hbw.size).kept oV hg
    ·obtain ⟨u,h1,h2⟩:=hall i (by omega)
     exact ⟨u,by rw [List.getElem?_append_left (by omega)];exact h1,(h2.but bV).kept oV hg⟩
   rw [hV] at hr
   have HR:=hide hr
   clear hr ho hg oV bV bV1 cc hV hus hall hbw ho1 hb1 HI hck FK BF hul
   go_wp2_with (at_builtin;refine wpList_app rfl _ _ 51 51 rfl _ _ v' w' rfl rfl (unhide HR) ?_)
   exact ⟨⟨k+1,by omega,by go_num,unhide JJ⟩,by simp [intOf];omega⟩
  ·obtain rfl:k=n:=by omega
   obtain ⟨⟨us,hus,hall⟩,hbw⟩:=unhide HI
   obtain ⟨a',c',rfl⟩:=ownsRow_form hus
   have JJ:MatsAt wr (.slice a' k c') (yearsF rss):=by
    have hlen:(yearsF rss).length=k:=by unfold yearsF;rw [List.length_map];exact (unhide HN).symm
    refine ⟨a',c',by rw [hlen],fun i l hil=>?_⟩
    have hik:i<k:=by rw [← hlen];exact (List.getElem?_eq_some_iff.1 hil).1
    obtain ⟨u,h1,h2⟩:=hall i hik
    have hl:l=rowsF (rss[i]?.getD []):=by
     unfold yearsF at hil
     rw [List.getElem?_map,List.getElem?_eq_getElem (by have:=unhide HN;omega)] at hil
     rw [List.getElem?_eq_getElem (by have:=unhide HN;omega),Option.getD_some]
     exact (Option.some.inj hil).symm
    rcases hus.2 with ⟨h3,h4⟩ | ⟨g,cap,cur,h3,-⟩
    ·omega
    ·simp only [Value.slice.injEq] at h3
     obtain ⟨rfl,-,rfl⟩:=h3
     refine ⟨g,0,u,rfl,?_,by rw [hl];exact h2.lists⟩
     have:=hus.cellAt i (by omega)
     rw [Nat.zero_add,this,h1]
   have NN:=hide (unhide NW wr _ hbw JJ)
   have BW:=hide hbw
   clear hus hall hbw HI JJ
   go_wp2_with fail
   refine (unhide NN).mono ?_
   rintro e w2 ⟨hb2,hcase⟩
   have B2:=hide ((unhide BW).trans' hb2)
   clear hb2 NN
   rcases hcase with ⟨hok,g,rfl,hch⟩ | ⟨hno,cc,hc1,hc2,rfl⟩
   ·have HOK:=hide hok
    have HCH:=hide hch
    have TN:=hide (tellG_nil w2)
    clear hok hch
    go_wp2_with fail
    refine (unhide TN).mono ?_
    rintro e w3 ⟨rfl,hb3⟩
    have FI:=hide (And.intro ((unhide HCH).but hb3) ((unhide B2).trans' hb3))
    clear hb3 TN
    go_wp2
    exact bodyPost_ret (v:=.tuple #[.pointer (some ⟨g,0,none⟩),.int .i64 0]) (by simp [results,Tryz.results5,go_sem]) rfl ⟨(unhide FI).2,.inl ⟨unhide HOK,g,rfl,(unhide FI).1⟩⟩
   ·have HNO:=hide hno
    have TN:=hide (unhide TE cc w2 (unhide B2))
    clear hno
    go_wp2_with fail
    refine (unhide TN).mono ?_
    rintro e w3 ⟨rfl,hb3⟩
    have FI:=hide ((unhide B2).trans' hb3)
    clear hb3 TN
    go_wp2
    exact bodyPost_ret (v:=.tuple #[.pointer none,.int .i64 cc]) (by simp [results,Tryz.results5,go_sem]) rfl ⟨unhide FI,.inr ⟨unhide HNO,cc,hc1,hc2,rfl⟩⟩
end Go.Proofs.YthlnhheblhapgaaGreatDoor
