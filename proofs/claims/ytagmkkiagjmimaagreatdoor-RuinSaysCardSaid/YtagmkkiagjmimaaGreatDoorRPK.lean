/- errors.As at an Errno, and api.Tell, by  -/
import Derived.Test.YtagmkkiagjmimaaGreatDoorProg
import Derived.LaidEql
import Derived.Stop.Asserts
import Derived.RowKitTokens
import Derived.Test.YtagmkkiagjmimaaGreatDoorRT3r
namespace Go.Proofs.YtagmkkiagjmimaaGreatDoor
open Go.Proofs.Tryz
open Go.RowKit Go.Extern.Stop Go.Stop Go.Extern
set_option maxHeartbeats 16000000
set_option maxRecDepth 100000
theorem qes (t:Addr) (w:World):(ReflectliteValue.unpack (.iface 101 (.pointer (some t)))).run prog w
  = .ok (.agg #[.pointer (some ⟨7,101,none⟩),.pointer (some ⟨w.heap.size,0,none⟩),.int .u64 150]) (w.alloc (.cells #[.pointer (some t)] 101)):=by kernel_rfl
theorem qrc (a:Addr) (w:World):(ReflectliteValue.methodAny (ReflectliteValue.valueError "reflectlite.Value.Type" 0) (fun t _ _ _=>ReflectliteType.toType t) #[.agg #[.pointer (some ⟨7,101,none⟩),.pointer (some a),.int .u64 150]]).run prog w
  = .ok (.iface 219 (.agg #[.pointer (some ⟨7,101,none⟩)])) w:=by kernel_rfl
theorem qrj (w:World):((ReflectliteType.abiMethod fun t=>(fun a:Nat=>Value.int IntKind.u8 (a:Int)) <$> Rtype.kind t) #[.pointer (some ⟨7,101,none⟩)]).run prog w=.ok (.int .u8 22) w:=by kernel_rfl
theorem qrk (w:World):((ReflectliteType.abiMethod fun t=>(fun a:Nat=>Value.int IntKind.u8 (a:Int)) <$> Rtype.kind t) #[.pointer (some ⟨7,33,none⟩)]).run prog w=.ok (.int .u8 2) w:=by kernel_rfl
theorem qet (n:Int) (w:World):(ReflectliteValue.unpack (.iface 33 (.int .i64 n))).run prog w
  = .ok (.agg #[.pointer (some ⟨7,33,none⟩),.pointer (some ⟨w.heap.size,0,none⟩),.int .u64 130]) (w.alloc (.cells #[.int .i64 n] 33)):=by kernel_rfl
theorem zya (h:Value) (w:World):(Go.method 426 219 (.agg #[h]) "Kind").run prog w=.ok (289,h) w:=by kernel_rfl
theorem zyb (h:Value) (w:World):(Go.method 426 219 (.agg #[h]) "Elem").run prog w=.ok (301,.agg #[h]) w:=by kernel_rfl
theorem zjm (h:Value) (w:World):(Go.method 426 219 (.agg #[h]) "Implements").run prog w=.ok (302,.agg #[h]) w:=by kernel_rfl
theorem zhb (h:Value) (w:World):(Go.method 426 219 (.agg #[h]) "AssignableTo").run prog w=.ok (299,.agg #[h]) w:=by kernel_rfl
theorem rlm (z:Sem Value) (f:TypeId→Addr→Nat→Nat→Sem Value) (v:Value) :
  ReflectliteValue.method z f #[v]=(do match ← ReflectliteValue.parts v with | none=>z | some (t,a,fl)=>f t a fl (fl%32)):=rfl
theorem qgc (a:Addr) (w:World):(ReflectliteValue.parts (.agg #[.pointer (some ⟨7,101,none⟩),.pointer (some a),.int .u64 150])).run prog w=.ok (some (101,a,150)) w:=by kernel_rfl
theorem qqt (a p:Addr) (W:World) (ha:W.cell? a=some (.pointer (some p))) :
  (ReflectliteValue.method (ReflectliteValue.valueError "reflectlite.Value.IsNil" 0) ReflectliteValue.isNil #[.agg #[.pointer (some ⟨7,101,none⟩),.pointer (some a),.int .u64 150]]).run prog W=.ok (.bool false) W:=by(
rw[rlm]
simp only[Sem.run_bind,qgc,Result.andThen]
simp[ReflectliteValue.isNil,loadVar,isAgg,underlying,underlying101,ha,Result.andThen])
theorem qrl (w:World):(ReflectliteType.method ReflectliteType.elem #[.agg #[.pointer (some ⟨7,101,none⟩)]]).run prog w=.ok (.iface 219 (.agg #[.pointer (some ⟨7,33,none⟩)])) w:=by kernel_rfl
theorem zvq (w:World):(ReflectliteType.relation "Implements" ReflectliteType.implements_ #[.agg #[.pointer (some ⟨7,33,none⟩)],.iface 219 (.agg #[.pointer (some ⟨7,29,none⟩)])]).run prog w=.ok (.bool true) w:=by kernel_rfl
theorem qki (v:Value) (w:World):(ReflectliteType.typeOf #[.iface 33 v]).run prog w=.ok (.iface 219 (.agg #[.pointer (some ⟨7,33,none⟩)])) w:=by kernel_rfl
theorem zwk (w:World):(ReflectliteType.relation "AssignableTo" ReflectliteType.assignableTo #[.agg #[.pointer (some ⟨7,33,none⟩)],.iface 219 (.agg #[.pointer (some ⟨7,33,none⟩)])]).run prog w=.ok (.bool true) w:=by kernel_rfl
theorem qlo (w:World):(Rtype.elem? 101).run prog w=.ok (some 33) w:=by kernel_rfl
theorem mkE (p:Addr) (w:World):(ReflectliteValue.mk 33 p ReflectliteValue.flagAddr).run prog w=.ok (.agg #[.pointer (some ⟨7,33,none⟩),.pointer (some p),.int .u64 386]) w:=by kernel_rfl
theorem qqw (a p:Addr) (W:World) (ha:W.cell? a=some (.pointer (some p))) :
  (ReflectliteValue.method (ReflectliteValue.valueError "reflectlite.Value.Elem" 0) ReflectliteValue.elem #[.agg #[.pointer (some ⟨7,101,none⟩),.pointer (some a),.int .u64 150]]).run prog W
   = .ok (.agg #[.pointer (some ⟨7,33,none⟩),.pointer (some p),.int .u64 386]) W:=by(
rw[rlm]
simp only[Sem.run_bind,qgc,Result.andThen]
simp[ReflectliteValue.elem,loadVar,isAgg,underlying,underlying101,ha,Result.andThen,qlo,mkE])
theorem rls (v x:Value):ReflectliteValue.set #[v,x]=(do
  let (some (dst,a,fl),some (src,b,_)):=(← ReflectliteValue.parts v,← ReflectliteValue.parts x)
   | unsupported (.noEntry "extern/(internal/reflectlite.Value).Set.zeroValue")
  if fl/ReflectliteValue.flagAddr%2==0 then unsupported (.noEntry "extern/(internal/reflectlite.Value).Set.unaddressable")
  let val ← loadVar src b
  if ← Rtype.directlyAssignable dst src then storeVar dst a val
  else if ← Rtype.implements dst src then
   if (← Rtype.kind src)==20 then
    match val with
    | .nilIface=>unsupported (.noEntry "extern/reflectlite: a nil value of one interface type handed on as a value of another")
    | _=>storeVar dst a val
   else storeVar dst a (.iface src val)
  else panicString ("reflectlite.Set: value of type "++(← Rtype.spelt src)++ " is not assignable to type "++(← Rtype.spelt dst))
  pure (.tuple #[])):=rfl
theorem qlc (a:Addr) (w:World):(ReflectliteValue.parts (.agg #[.pointer (some ⟨7,33,none⟩),.pointer (some a),.int .u64 386])).run prog w=.ok (some (33,a,386)) w:=by kernel_rfl
theorem qqo (a:Addr) (w:World):(ReflectliteValue.parts (.agg #[.pointer (some ⟨7,33,none⟩),.pointer (some a),.int .u64 130])).run prog w=.ok (some (33,a,130)) w:=by kernel_rfl
theorem qlp (w:World):(Rtype.directlyAssignable 33 33).run prog w=.ok true w:=by kernel_rfl
theorem qrp (ta b:Addr) (n:Int) (old:Value) (W:World) (hb:W.cell? b=some (.int .i64 n)) (ht:W.cell? ta=some old) (hf:W.frozen? ta=false) :
  (ReflectliteValue.set #[.agg #[.pointer (some ⟨7,33,none⟩),.pointer (some ta),.int .u64 386],.agg #[.pointer (some ⟨7,33,none⟩),.pointer (some b),.int .u64 130]]).run prog W
   = .ok (.tuple #[]) (W.setCell ta (.int .i64 n)):=by(
rw[rls]
simp only[Sem.run_bind,qlc,qqo,Result.andThen]
simp[ReflectliteValue.flagAddr,loadVar,isAgg,underlying,underlying33,hb,Result.andThen,qlp,storeVar,Value.cells,storeCells,Addr.add]
rw[run_store prog W ta _ _ (by rfl)]
simp[ht,hf])
theorem zgw (n:Int) (w:World) (hg:w.cell? ⟨0,0,none⟩=some (.iface 219 (.agg #[.pointer (some ⟨7,29,none⟩)]))) :
  Calls prog 10 #[.iface 33 (.int .i64 n)] w fun e w'=>e=.returned (.int .i64 n)∧But [] w w':=by(
have h22:=@run_callFunc_extern prog 135 _ (fun args=>ReflectliteValue.unpack (args.getD 0 (.tuple #[]))) func135 (by kernel_rfl) (by kernel_rfl) (by kernel_rfl) (by kernel_rfl)
have h23:=@run_callFunc_extern prog 136 _ (ReflectliteValue.methodAny (ReflectliteValue.valueError "reflectlite.Value.Type" 0) (fun t _ _ _=>ReflectliteType.toType t)) func136 (by kernel_rfl) (by kernel_rfl) (by kernel_rfl) (by kernel_rfl)
have h24:=@run_callFunc_extern prog 137 _ (ReflectliteValue.method (ReflectliteValue.valueError "reflectlite.Value.IsNil" 0) ReflectliteValue.isNil) func137 (by kernel_rfl) (by kernel_rfl) (by kernel_rfl) (by kernel_rfl)
have h128:=@run_callFunc_extern prog 289 _ (ReflectliteType.abiMethod fun t=>do pure (.int .u8 (← Rtype.kind t))) func289 (by kernel_rfl) (by kernel_rfl) (by kernel_rfl) (by kernel_rfl)
have h141:=@run_callFunc_extern prog 301 _ (ReflectliteType.method ReflectliteType.elem) func301 (by kernel_rfl) (by kernel_rfl) (by kernel_rfl) (by kernel_rfl)
have h142:=@run_callFunc_extern prog 302 _ (ReflectliteType.relation "Implements" ReflectliteType.implements_) func302 (by kernel_rfl) (by kernel_rfl) (by kernel_rfl) (by kernel_rfl)
have h40:=@run_callFunc_extern prog 184 _ ReflectliteType.typeOf func184 (by kernel_rfl) (by kernel_rfl) (by kernel_rfl) (by kernel_rfl)
have h139:=@run_callFunc_extern prog 299 _ (ReflectliteType.relation "AssignableTo" ReflectliteType.assignableTo) func299 (by kernel_rfl) (by kernel_rfl) (by kernel_rfl) (by kernel_rfl)
have h41:=@run_callFunc_extern prog 185 _ (ReflectliteValue.method (ReflectliteValue.valueError "reflectlite.Value.Elem" 0) ReflectliteValue.elem) func185 (by kernel_rfl) (by kernel_rfl) (by kernel_rfl) (by kernel_rfl)
have h42:=@run_callFunc_extern prog 186 _ ReflectliteValue.set func186 (by kernel_rfl) (by kernel_rfl) (by kernel_rfl) (by kernel_rfl)
have tO:=qki
have mA:=zhb
have aE:=zwk
have vE:=qet
have vT:=qes
have tT:=qrc
have mK:=zya
have mE:=zyb
have mI:=zjm
have kT:=qrj
have kE:=qrk
have eT:=qrl
have iE:=zvq
have nT:=qqt
have eV:=qqw
have st:=qrp ⟨w.heap.size,0,none⟩ ⟨w.heap.size+1+1+1+1,0,none⟩ n (.int .i64 0) (((((w.alloc (.cells #[.int .i64 0] 33)).alloc (.cells #[.pointer (some ⟨w.heap.size,0,none⟩)] 101)).alloc (.cells #[.pointer (some ⟨7,101,none⟩),.pointer (some ⟨w.heap.size+1,0,none⟩),.int .u64 150] 169)).alloc (.cells #[.pointer (some ⟨7,101,none⟩),.pointer (some ⟨w.heap.size+1,0,none⟩),.int .u64 150] 169)).alloc (.cells #[.int .i64 n] 33))
 (by rw[World.cell?_alloc_at _ _ _ _ (by simp)];rfl)
 (by rw[World.cell?_alloc_lt _ _ _ (by simp;omega),World.cell?_alloc_lt _ _ _ (by simp;omega),World.cell?_alloc_lt _ _ _ (by simp;omega),World.cell?_alloc_lt _ _ _ (by simp),World.cell?_alloc_new];rfl)
 (by rw[World.frozen?_alloc_old _ _ _ (by simp;omega),World.frozen?_alloc_old _ _ _ (by simp;omega),World.frozen?_alloc_old _ _ _ (by simp;omega),World.frozen?_alloc_old _ _ _ (by simp),World.frozen?_alloc_new])
have hlt : 0 < w.heap.size:=ai hg
have hg3:∀ o1 o2 o3,(((w.alloc o1).alloc o2).alloc o3).cell? ⟨0,0,none⟩=some (.iface 219 (.agg #[.pointer (some ⟨7,29,none⟩)])):=fun o1 o2 o3=>by
 rw[World.cell?_alloc_lt _ _ ⟨0,0,none⟩ (by first | (simp;done) | (simp;omega)),World.cell?_alloc_lt _ _ ⟨0,0,none⟩ (by first | (simp;done) | (simp;omega)),World.cell?_alloc_lt _ _ ⟨0,0,none⟩ hlt];exact hg
go_enter func10,ntmps10
go_wp2
refine wp_loop_rounds 1 ?_
rw[rounds_succ]
go_wp2
go_ret
refine⟨rfl,?_⟩
repeat (first | exact But.refl _ _ | refine But.alloc ?_ _ | refine But.drew ?_ | refine But.setCell ?_ (.inr (by simp)) _))
open Go.RowKit
theorem qbw {α:Type} {F:Nat→α} {l:List α} (h:∀ i x,l[i]? = some x→F i=x):(List.range l.length).map F=l:=by(
apply List.ext_getElem?
intro i
rw[List.getElem?_map]
by_cases hi:i<l.length
·rw[List.getElem?_range hi,List.getElem?_eq_getElem hi]
 exact congrArg some (h i _ (List.getElem?_eq_getElem hi))
·rw[List.getElem?_eq_none (by simpa using hi),List.getElem?_eq_none (by simpa using hi)]
 rfl)
theorem zun (q:Int × Int) (h:Fits q):(qf q).num*(if q.2=0 then 1 else q.2)=q.1*((qf q).den:Int):=by(
obtain⟨f,r,x,y,-,hf,-⟩:=zmz q.1 q.2 h.1 h.2.1 h.2.2.1 h.2.2.2
rw[← qlx f q hf]
exact hf)
theorem zug (v:Value) (qs:List (Int × Int)) (w:World) (hq:zwo w v qs) (hf:∀ q ∈ qs,Fits q) (hn:qs.length≤1000) :
  Calls prog 15 #[v] w fun e w'=>∃ v' us,e=.returned v'∧zgk w' w.heap.size v' (qs.map qf) us∧But [] w w':=by(
obtain⟨a,cap,rfl,hcap,hc⟩:=hq
obtain⟨F,hF⟩:∃ F:Nat→Rat,F=fun i=>qf (qs[i]?.getD (0,0)):=⟨_,rfl⟩
have hL:(List.range qs.length).map F=qs.map qf:=by
 have:=qbw (F:=F) (l:=qs.map qf) (fun i x hx=>by
  rw[List.getElem?_map] at hx
  cases h:qs[i]? with
  | none=>rw[h] at hx;simp at hx
  | some q=>rw[h] at hx;rw[hF];simp only[h,Option.getD_some];simpa using hx)
 rwa [List.length_map] at this
have hcell:∀ i,i<qs.length→∃ b off,a=some ⟨b,off,none⟩∧w.cell? ⟨b,off+i*2,none⟩=some (.int .i64 (qs[i]?.getD (0,0)).1)∧w.cell? ⟨b,off+i*2+1,none⟩=some (.int .i64 (qs[i]?.getD (0,0)).2):=fun i hi=>by
 rw[List.getElem?_eq_getElem hi]
 exact hc i _ (List.getElem?_eq_getElem hi)
have hOF:∀ i,i<qs.length→∀ W,Calls prog 14 #[.agg #[.int .i64 (qs[i]?.getD (0,0)).1,.int .i64 (qs[i]?.getD (0,0)).2]] W fun e w'=>∃ zb,e=.returned (.pointer (some ⟨zb,0,none⟩))∧zi w' zb (F i)∧But [] W w':=fun i hi W=>by
 have eF:F i=qf qs[i]:=by rw[hF];show qf (qs[i]?.getD (0,0))=_;rw[List.getElem?_eq_getElem hi];rfl
 rw[eF,List.getElem?_eq_getElem hi]
 have hq:=hf qs[i] (List.getElem_mem hi)
 exact (zpn _ _ (qf qs[i]) W hq.1 hq.2.1 hq.2.2.1 hq.2.2.2 (zun _ hq)).mono fun e w' ⟨zb,he,hb,hr,_⟩=>⟨zb,he,hr,hb⟩
have HC:=af hcell
have HV:=af hOF
rw[← hL]
obtain⟨n,hnn⟩:∃ n,n=qs.length:=⟨_,rfl⟩
rw[← hnn] at hn hcap HC HV
rw[← hnn]
clear hcell hOF hc hf hF hL hnn
go_enter func15,ntmps15
go_wp2
go_loopw [3,8] (fun o i wr=>∃ (k:Nat) (us:List Value),k≤n∧i=.int .i64 (k:Int)∧Hid (zgk wr w.heap.size o ((List.range k).map F) us∧But [] w wr)) (fun _ i _=>n-(intOf i).toNat)
case atStart=>exact⟨0,[],Nat.zero_le _,rfl,zgk.empty _ _,But.refl _ _⟩
case round =>(
obtain⟨k,us,hk,rfl,HI⟩:=hrel
rename World=>wr
by_cases hlt:k<n
·(
obtain⟨b,off,rfl,c0,c1⟩:=ae HC k hlt
have c0':=(ae HI).2.ag c0 (by simp)
have c1':=(ae HI).2.ag c1 (by simp)
have PF:=af (ae HV k hlt)
clear c0 c1
generalize (qs[k]?.getD (0,0)).1=q1 at *
generalize (qs[k]?.getD (0,0)).2=q2 at *
have ba:=(But.refl [] wr).alloc (.cells #[.int .i64 q1,.int .i64 q2] 23)
have BA:=af ba
clear ba
go_wp2_with fail
refine (ae PF _).mono ?_
rintro e w1 ⟨zb,rfl,hz,hb1⟩
obtain⟨V,hV⟩:∃ V,V=w1.alloc (.cells #[.pointer (some ⟨zb,0,none⟩)] 37):=⟨_,rfl⟩
have bV1:But [] w1 V:=by rw[hV];exact (But.refl _ _).alloc _
have cc:V.cell? ⟨w1.heap.size,0,none⟩=some (.pointer (some ⟨zb,0,none⟩)):=by rw[hV];simp
have bV:But [] wr V:=((ae BA).trans' hb1).trans' bV1
have oV:=(ae HI).1.but bV
have bwV:=(ae HI).2.trans' bV
obtain⟨v',w',hr,ho,hB,-⟩:=zyv V w u3 _ us w.heap.size oV w1.heap.size _ (F k) cc ⟨zb,rfl,hz.but bV1⟩ (by simp;omega) bwV (Nat.le_refl _) bwV.size
have BF:Hid (But [] w w'):=hB
have HO:=af ho
rw[hV] at hr
have HR:=af hr
clear hr ho hB oV bV bwV cc hV bV1 hz hb1
go_wp2_with (at_builtin;refine jh rfl _ _ 42 42 rfl _ _ v' w' rfl rfl (ae HR) ?_)
refine⟨⟨k+1,_,by omega,by go_num,by rw[List.range_succ,List.map_append];exact ae HO,ae BF⟩,by simp[intOf];omega⟩)
·(
obtain rfl:k=n:=by omega
obtain⟨a',c',e'⟩:=(ae HI).1.form
subst e'
go_wp2
go_ret
exact⟨_,us,rfl,(ae HI).1,(ae HI).2⟩)))
set_option linter.unusedVariables false
def o5 (w:World) (b:Nat):Prop:=za w b 0 0∧w.cell? ⟨b,2,none⟩=some (.bool false)∧w.cell? ⟨b,3,none⟩=some (.slice none 0 0)
theorem o5.but {w w':World} {b:Nat} (h:o5 w b) (hb:But [] w w'):o5 w' b:=⟨h.1.but hb,hb.ag h.2.1 (by simp),hb.ag h.2.2 (by simp)⟩
theorem o5.lt {w:World} {b:Nat} (h:o5 w b):b<w.heap.size:=h.1.lt
theorem qen (w:World) (t:TypeId):o5 (w.alloc (.cells #[.bool false,.slice none 0 0,.bool false,.slice none 0 0] t)) w.heap.size:=by(
refine⟨⟨by simp,.slice none 0 0,by simp,?_⟩,by simp,by simp⟩
have h0:wd 4294967296 (0:Int).natAbs=[]:=by rw[wu (by omega)];rfl
rw[h0]
exact⟨none,0,rfl,Nat.le_refl _,fun i hi=>by simp at hi,fun b off e h1=>by simp at h1⟩)
theorem zqg (b:Nat) (w:World) (h:o5 w b) :
  Calls prog 83 #[.pointer (some ⟨b,0,none⟩)] w fun e w'=>∃ q,e=.returned (.pointer (some ⟨q,0,none⟩))∧w.heap.size≤q∧But [] w w'∧za w' q 0 1:=by(
obtain⟨-,c2,c3⟩:=h
go_enter func83,ntmps83
go_wp2_with fail
refine (zah 1 _ (by omega) (by omega)).mono ?_
rintro e w1 ⟨rfl,hb,hI,-⟩
go_wp2
go_ret
exact⟨_,rfl,Nat.le_refl _,hb,hI⟩)
theorem zkv (A b1 o1 b2 o2:Nat) (x y z:Int) (hz:x*y=z) (w P:World) (hs:Slot P A 0) (hw:But [] w P) (hA:w.heap.size≤A) (hx:za P b1 o1 x) (hy:za P b2 o2 y) (n1:A≠b1) (n2:A≠b2) (hlx:(wd 4294967296 x.natAbs).length<8388608) (hly:(wd 4294967296 y.natAbs).length<8388608) (hlz:(wd 4294967296 z.natAbs).length<8388608) :
  Calls prog 85 #[.pointer (some ⟨A,0,none⟩),.pointer (some ⟨b1,o1,none⟩),.pointer (some ⟨b2,o2,none⟩)] P fun e W1=>e=.returned (.pointer (some ⟨A,0,none⟩))∧But [] w W1∧za W1 A 0 z∧(∀ B,B≠A→Slot P B 0→Slot W1 B 0)∧(∀ b o z,b≠A→za P b o z→za W1 b o z)∧P.heap.size≤W1.heap.size:=by(
refine (znp A 0 b1 o1 b2 o2 x y P hs n1 n2 hx hy (by omega) (by omega) (by rw[← Int.natAbs_mul,hz];omega)).mono ?_
rintro e W1 ⟨rfl,w1,v,hb,hv,rfl⟩
rw[hz] at hv ⊢
have hs1:=hs.but hb (by simp)
exact⟨rfl,(hw.trans' hb).trans (zcp ..) (by simp;exact hA),zco hs1 _ _ hv,fun B hB hS=>yj _ _ (hS.but hb (by simp)) (.inl hB),fun b o z' hB hI=>dw hs1 _ _ (hI.but hb) (.inl hB),by rw[zga];exact hb.size⟩)
theorem dm.stay {W:World} {P Q R:Int} {b0 b1 b8:Nat} {a0 a1 a8 p q r z:Bool} {w w':World} (h:dm W P Q R b0 b1 b8 a0 a1 a8 p q r z w) (hb:But [] w w'):dm W P Q R b0 b1 b8 a0 a1 a8 p q r z w' :=
 ⟨h.but.trans' hb,fun e=>⟨(h.s0 e).1,Nat.lt_of_lt_of_le (h.s0 e).2.1 hb.size,fun k=>((h.s0 e).2.2 k).but hb (by simp)⟩,fun e=>⟨(h.s1 e).1,Nat.lt_of_lt_of_le (h.s1 e).2.1 hb.size,fun k=>((h.s1 e).2.2 k).but hb (by simp)⟩,fun e=>⟨(h.s8 e).1,Nat.lt_of_lt_of_le (h.s8 e).2.1 hb.size,fun k=>((h.s8 e).2.2 k).but hb (by simp)⟩,
  h.n01,h.n08,h.n18,fun e=>⟨(h.hp e).1,(h.hp e).2.but hb⟩,fun e=>⟨(h.hq e).1,(h.hq e).2.but hb⟩,fun e=>⟨(h.hr e).1,(h.hr e).2.but hb⟩,h.hz⟩
def qqc (xb yb:Nat) (N:Nat × Nat × Nat × Nat) (i:Nat):Value:=match i with
 | 0=>.pointer (some ⟨N.1,0,none⟩)
 | 1=>.pointer (some ⟨N.2.1,0,none⟩)
 | 2=>.pointer (some ⟨xb,0,none⟩)
 | 3=>.pointer (some ⟨xb,0,none⟩)
 | 4=>.pointer (some ⟨xb,0,none⟩)
 | 5=>.pointer (some ⟨yb,0,none⟩)
 | 6=>.pointer (some ⟨yb,2,none⟩)
 | 7=>.pointer (some ⟨N.2.1,0,none⟩)
 | 8=>.pointer (some ⟨N.2.2.1,0,none⟩)
 | 9=>.pointer (some ⟨yb,0,none⟩)
 | 10=>.pointer (some ⟨yb,0,none⟩)
 | 11=>.pointer (some ⟨yb,0,none⟩)
 | 12=>.pointer (some ⟨xb,0,none⟩)
 | 13=>.pointer (some ⟨N.2.2.2,0,none⟩)
 | 14=>.pointer (some ⟨N.2.2.1,0,none⟩)
 | 15=>.pointer (some ⟨N.1,0,none⟩)
 | _=>.pointer (some ⟨N.1,0,none⟩)
theorem qlt:zei jg [(3,2),(4,3),(6,5),(7,1),(7,4),(7,6),(10,9),(11,10),(13,7),(13,12),(14,8),(14,11),(14,13),(15,0),(15,7),(15,14),(16,0),(16,1),(16,2),(16,3),(16,4),(16,5),(16,6),(16,7),(16,8),(16,9),(16,10),(16,11),(16,12),(16,13),(16,14),(16,15)]=true:=by kernel_rfl
theorem zze (id:Nat) (Q:Exit→Act→World→Prop) (base:Act) (W0:World) (xb yb:Nat) (x y P Z R:Int) (nx ny:Nat) (hs:23<base.tmps.size) (e1:base.eval (.tmp 1)=.pointer (some ⟨xb,0,none⟩)) (e2:base.eval (.tmp 2)=.pointer (some ⟨yb,0,none⟩))
  (hx:o5 W0 xb) (hx0:x=0) (hnx1:(nx:Int)=1) (hy:qd W0 yb y (ny:Int)) (hny:0<ny) (hxl:(wd 4294967296 x.natAbs).length<8388608) (hyl:(wd 4294967296 y.natAbs).length<8388608) (hnxl:(wd 4294967296 nx).length<8388608) (hnyl:(wd 4294967296 ny).length<8388608) (hP:x*(ny:Int)=P) (hZ:y*(nx:Int)=Z) (hR:R=P+Z) (hPl:(wd 4294967296 P.natAbs).length<8388608) (hZl:(wd 4294967296 Z.natAbs).length<8388608) (hRl:(wd 4294967296 R.natAbs).length<8388608)
  (hQ:∀ w b0 b1 b8 bd,But [] W0 w→W0.heap.size≤b0→za w b0 0 R→Q .normal (bi base [(8,.pointer (some ⟨b0,0,none⟩)),(9,.pointer (some ⟨b1,0,none⟩)),(10,.pointer (some ⟨xb,0,none⟩)),(11,.pointer (some ⟨xb,0,none⟩)),(12,.pointer (some ⟨xb,0,none⟩)),(13,.pointer (some ⟨yb,0,none⟩)),(14,.pointer (some ⟨yb,2,none⟩)),(15,.pointer (some ⟨b1,0,none⟩)),(16,.pointer (some ⟨b8,0,none⟩)),(17,.pointer (some ⟨yb,0,none⟩)),(18,.pointer (some ⟨yb,0,none⟩)),(19,.pointer (some ⟨yb,0,none⟩)),(20,.pointer (some ⟨xb,0,none⟩)),(21,.pointer (some ⟨bd,0,none⟩)),(22,.pointer (some ⟨b8,0,none⟩)),(23,.pointer (some ⟨b0,0,none⟩)),(7,.pointer (some ⟨b0,0,none⟩))]) w) :
  (Code.region id jg true).wp prog Q base W0:=by(
have hdr:∀ {w},But [] W0.drew w→But [] W0 w:=fun h=>(But.refl _ _).drew.trans' h
have hT:∀ i,i<17→zeo i<base.tmps.size:=fun i hi=>by
 have h:zeo i≤23:=by revert i;decide
 omega
have lx:=hx.lt
have ly:=hy.lt
refine zhs (by kernel_rfl) (dx (by kernel_rfl)) (zlv (by kernel_rfl)) (α:=Nat × Nat × Nat × Nat) (fun N d w=>dm W0.drew P Z R N.1 N.2.1 N.2.2.1 (d 0) (d 1) (d 8) (d 7) (d 14) (d 15) (d 16) w∧(d 13=true→d 14=false→za w N.2.2.2 0 (nx:Int)∧(d 8=true→N.2.2.2≠N.2.2.1))) (qqc xb yb) zeo 17 (by kernel_rfl) zql hT (0,0,0,0) ?_ ?_ ?_
·exact⟨⟨But.refl _ _,by simp,by simp,by simp,by simp,by simp,by simp,by simp,by simp,by simp,by simp⟩,fun h=>by simp at h⟩
·(
rintro ⟨b0,b1,b8,bd⟩ d i o a w K hi ho hdi hCl hH he hdep hk
have hH':dm W0.drew P Z R b0 b1 b8 (d 0) (d 1) (d 8) (d 7) (d 14) (d 15) (d 16) w:=hH.1
have hX:d 13=true→d 14=false→za w bd 0 (nx:Int)∧(d 8=true→bd≠b8):=hH.2
have hD:=zso (ps:=[(3,2),(4,3),(6,5),(7,1),(7,4),(7,6),(10,9),(11,10),(13,7),(13,12),(14,8),(14,11),(14,13),(15,0),(15,7),(15,14),(16,0),(16,1),(16,2),(16,3),(16,4),(16,5),(16,6),(16,7),(16,8),(16,9),(16,10),(16,11),(16,12),(16,13),(16,14),(16,15)]) (by kernel_rfl) ho (fun j=>d j=true∧a.eval (.tmp (zeo j))=qqc xb yb (b0,b1,b8,bd) j) hdep
have e1':=(he 1 (fun j hj e=>absurd e.symm (by revert j;decide))).trans e1
have e2':=(he 2 (fun j hj e=>absurd e.symm (by revert j;decide))).trans e2
have hB:=hdr hH'.but
have hlw:=hB.size
have:i=0∨i=1∨i=2∨i=3∨i=4∨i=5∨i=6∨i=7∨i=8∨i=9∨i=10∨i=11∨i=12∨i=13∨i=14∨i=15∨i=16:=by omega
rcases this with rfl|rfl|rfl|rfl|rfl|rfl|rfl|rfl|rfl|rfl|rfl|rfl|rfl|rfl|rfl|rfl|rfl
·(
obtain rfl:=so (show jg[0]? =some qkd from rfl) ho
rw[hdi] at hH'
refine zt (zae a w _ _ _ _) (hk (w.heap.size,b1,b8,bd) _ _ rfl (fun j hj hdj=>?_) ⟨hH'.qjr _,fun h1 h2=>⟨(hX h1 h2).1.but ((But.refl _ _).alloc _),(hX h1 h2).2⟩⟩)
have:j=0∨j=1∨j=2∨j=3∨j=4∨j=5∨j=6∨j=7∨j=8∨j=9∨j=10∨j=11∨j=12∨j=13∨j=14∨j=15∨j=16:=by omega
rcases this with rfl|rfl|rfl|rfl|rfl|rfl|rfl|rfl|rfl|rfl|rfl|rfl|rfl|rfl|rfl|rfl|rfl
all_goals first
 | rfl
 | (rw[hdi] at hdj;simp at hdj)
 | (exfalso;first | (have:=(hH'.hr hdj).1;simp at this) | (have:=(hH'.hr (hH'.hz hdj)).1;simp at this)))
·(
obtain rfl:=so (show jg[1]? =some qkc from rfl) ho
rw[hdi] at hH'
refine zt (zae a w _ _ _ _) (hk (b0,w.heap.size,b8,bd) _ _ rfl (fun j hj hdj=>?_) ⟨hH'.qjq _,fun h1 h2=>⟨(hX h1 h2).1.but ((But.refl _ _).alloc _),(hX h1 h2).2⟩⟩)
have:j=0∨j=1∨j=2∨j=3∨j=4∨j=5∨j=6∨j=7∨j=8∨j=9∨j=10∨j=11∨j=12∨j=13∨j=14∨j=15∨j=16:=by omega
rcases this with rfl|rfl|rfl|rfl|rfl|rfl|rfl|rfl|rfl|rfl|rfl|rfl|rfl|rfl|rfl|rfl|rfl
all_goals first
 | rfl
 | (rw[hdi] at hdj;simp at hdj)
 | (exfalso;have:=(hH'.hp hdj).1;simp at this))
·obtain rfl:=so (show jg[2]? =some qkb from rfl) ho
 exact zt (pz a w _ _ _ _ _ _ e1') (hk (b0,b1,b8,bd) _ _ rfl (fun _ _ _=>rfl) hH)
·obtain rfl:=so (show jg[3]? =some qka from rfl) ho
 exact zt (zhq a w _ _ _ _ _ _ 0 (hD 2 (by simp)).2) (hk (b0,b1,b8,bd) _ _ rfl (fun _ _ _=>rfl) hH)
·obtain rfl:=so (show jg[4]? =some qjz from rfl) ho
 exact zt (zea a w _ _ _ _ _ _ (hD 3 (by simp)).2 (by omega)) (hk (b0,b1,b8,bd) _ _ rfl (fun _ _ _=>rfl) hH)
·obtain rfl:=so (show jg[5]? =some qjy from rfl) ho
 exact zt (pz a w _ _ _ _ _ _ e2') (hk (b0,b1,b8,bd) _ _ rfl (fun _ _ _=>rfl) hH)
·obtain rfl:=so (show jg[6]? =some qjx from rfl) ho
 refine ve (zcm a w _ _ _ _ _ _ (hD 5 (by simp)).2) (R:=fun w' v=>v=.pointer (some ⟨yb,2,none⟩)∧w'=w) ((ou yb y ny w (hy.but hB) hny).mono (fun e w' h=>⟨_,h.1,rfl,h.2⟩)) ?_
 rintro v w' ⟨rfl,rfl⟩
 exact hk (b0,b1,b8,bd) _ _ rfl (fun _ _ _=>rfl) hH
·(
obtain rfl:=so (show jg[7]? =some qjw from rfl) ho
have hs1:=hH'.s1 (hD 1 (by simp)).1
rw[hdi] at hs1
refine ve (zbn a w _ _ _ _ _ _ _ _ _ _ (hD 1 (by simp)).2 (hD 4 (by simp)).2 (hD 6 (by simp)).2) (R:=fun w' v=>v=.pointer (some ⟨b1,0,none⟩)∧But [] W0.drew w'∧za w' b1 0 P∧(∀ B,B≠b1→Slot w B 0→Slot w' B 0)∧(∀ b o z',b≠b1→za w b o z'→za w' b o z')∧w.heap.size≤w'.heap.size) ((yw b1 xb 0 yb 2 x (ny:Int) P hP W0.drew w (hs1.2.2 rfl) hH'.but hs1.1 (by rw[hx0];exact hx.1) hy.drew.low hxl (by rw[Int.natAbs_natCast];exact hnyl) hPl).mono (fun e w' h=>⟨_,h.1,rfl,h.2⟩)) ?_
rintro v w' ⟨rfl,k1,k2,k3,k4,k5⟩
rw[hdi,(hD 1 (by simp)).1] at hH'
refine hk (b0,b1,b8,bd) _ _ rfl (fun _ _ _=>rfl) ⟨?_,fun h1=>absurd ((hCl.not qlt (i:=13) (j:=7) (by simp) hdi).symm.trans h1) (by simp)⟩
show dm W0.drew P Z R b0 b1 b8 (d 0) (d 1) (d 8) true (d 14) (d 15) (d 16) w'
rw[(hD 1 (by simp)).1]
exact hH'.qrh k1 k2 k3 k4 k5)
·(
obtain rfl:=so (show jg[8]? =some qjv from rfl) ho
rw[hdi] at hH'
refine zt (zae a w _ _ _ _) (hk (b0,b1,w.heap.size,bd) _ _ rfl (fun j hj hdj=>?_) ⟨hH'.qjp _,fun h1 h2=>⟨(hX h1 h2).1.but ((But.refl _ _).alloc _),fun _=>Nat.ne_of_lt (hX h1 h2).1.lt⟩⟩)
have:j=0∨j=1∨j=2∨j=3∨j=4∨j=5∨j=6∨j=7∨j=8∨j=9∨j=10∨j=11∨j=12∨j=13∨j=14∨j=15∨j=16:=by omega
rcases this with rfl|rfl|rfl|rfl|rfl|rfl|rfl|rfl|rfl|rfl|rfl|rfl|rfl|rfl|rfl|rfl|rfl
all_goals first
 | rfl
 | (rw[hdi] at hdj;simp at hdj)
 | (exfalso;have:=(hH'.hq hdj).1;simp at this))
·obtain rfl:=so (show jg[9]? =some qju from rfl) ho
 exact zt (pz a w _ _ _ _ _ _ e2') (hk (b0,b1,b8,bd) _ _ rfl (fun _ _ _=>rfl) hH)
·obtain rfl:=so (show jg[10]? =some zzd from rfl) ho
 exact zt (zhq a w _ _ _ _ _ _ 0 (hD 9 (by simp)).2) (hk (b0,b1,b8,bd) _ _ rfl (fun _ _ _=>rfl) hH)
·obtain rfl:=so (show jg[11]? =some zzc from rfl) ho
 exact zt (zea a w _ _ _ _ _ _ (hD 10 (by simp)).2 (by omega)) (hk (b0,b1,b8,bd) _ _ rfl (fun _ _ _=>rfl) hH)
·obtain rfl:=so (show jg[12]? =some zzb from rfl) ho
 exact zt (pz a w _ _ _ _ _ _ e1') (hk (b0,b1,b8,bd) _ _ rfl (fun _ _ _=>rfl) hH)
·(
obtain rfl:=so (show jg[13]? =some zza from rfl) ho
refine ve (zcm a w _ _ _ _ _ _ (hD 12 (by simp)).2) (R:=fun w' v=>∃ q,v=.pointer (some ⟨q,0,none⟩)∧w.heap.size≤q∧But [] w w'∧za w' q 0 1) ((zqg xb w (hx.but hB)).mono (fun e w' ⟨q,h1,h2,h3,h4⟩=>⟨_,h1,q,rfl,h2,h3,h4⟩)) ?_
rintro v w' ⟨q,rfl,hq,hb,hI⟩
refine hk (b0,b1,b8,q) _ _ rfl (fun j hj hdj=>?_) ⟨hH'.stay hb,fun _ _=>⟨by rw[hnx1];exact hI,fun h8=>Ne.symm (Nat.ne_of_lt (Nat.lt_of_lt_of_le (hH'.s8 h8).2.1 hq))⟩⟩
have:j=0∨j=1∨j=2∨j=3∨j=4∨j=5∨j=6∨j=7∨j=8∨j=9∨j=10∨j=11∨j=12∨j=13∨j=14∨j=15∨j=16:=by omega
rcases this with rfl|rfl|rfl|rfl|rfl|rfl|rfl|rfl|rfl|rfl|rfl|rfl|rfl|rfl|rfl|rfl|rfl
all_goals first
 | rfl
 | (rw[hdi] at hdj;simp at hdj))
·(
obtain rfl:=so (show jg[14]? =some zyz from rfl) ho
have hs1:=hH'.s8 (hD 8 (by simp)).1
rw[hdi] at hs1
refine ve (zbn a w _ _ _ _ _ _ _ _ _ _ (hD 8 (by simp)).2 (hD 11 (by simp)).2 (hD 13 (by simp)).2) (R:=fun w' v=>v=.pointer (some ⟨b8,0,none⟩)∧But [] W0.drew w'∧za w' b8 0 Z∧(∀ B,B≠b8→Slot w B 0→Slot w' B 0)∧(∀ b o z',b≠b8→za w b o z'→za w' b o z')∧w.heap.size≤w'.heap.size) ((zkv b8 yb 0 bd 0 y (nx:Int) Z hZ W0.drew w (hs1.2.2 rfl) hH'.but hs1.1 ((za.drew hy.up).but hH'.but) (hX (hD 13 (by simp)).1 hdi).1 (Ne.symm (Nat.ne_of_lt (Nat.lt_of_lt_of_le ly hs1.1))) (Ne.symm ((hX (hD 13 (by simp)).1 hdi).2 (hD 8 (by simp)).1)) hyl (by rw[Int.natAbs_natCast];exact hnxl) hZl).mono (fun e w' h=>⟨_,h.1,rfl,h.2⟩)) ?_
rintro v w' ⟨rfl,k1,k2,k3,k4,k5⟩
rw[hdi,(hD 8 (by simp)).1] at hH'
refine hk (b0,b1,b8,bd) _ _ rfl (fun _ _ _=>rfl) ⟨?_,fun _ h2=>absurd h2 (by rw[xg];simp)⟩
show dm W0.drew P Z R b0 b1 b8 (d 0) (d 1) (d 8) (d 7) true (d 15) (d 16) w'
rw[(hD 8 (by simp)).1]
exact hH'.qrg k1 k2 k3 k4 k5)
·(
obtain rfl:=so (show jg[15]? =some zyy from rfl) ho
have d0:=(hD 0 (by simp)).1
have hs1:=hH'.s0 d0
rw[hdi] at hs1
have hp7:=hH'.hp (hD 7 (by simp)).1
have hq14:=hH'.hq (hD 14 (by simp)).1
refine ve (zhr a w _ _ _ _ _ _ _ _ _ _ (hD 0 (by simp)).2 (hD 7 (by simp)).2 (hD 14 (by simp)).2) (R:=fun w' v=>v=.pointer (some ⟨b0,0,none⟩)∧But [] W0.drew w'∧za w' b0 0 R∧(∀ B,B≠b0→Slot w B 0→Slot w' B 0)∧(∀ b o z',b≠b0→za w b o z'→za w' b o z')∧w.heap.size≤w'.heap.size) ((zkw b0 0 b1 0 b8 0 P Z R w (hs1.2.2 rfl) (hH'.n01 d0 hp7.1) (hH'.n08 d0 hq14.1) hp7.2 hq14.2 hPl hZl (by omega) hR).mono (fun e w' h=>by
 obtain⟨h1,w1,v,h2,h3,rfl⟩:=h
 exact⟨_,h1,rfl,zno (hs1.2.2 rfl) hH'.but hs1.1 h2 h3⟩)) ?_
rintro v w' ⟨rfl,k1,k2,k3,k4,k5⟩
rw[hdi,d0] at hH'
refine hk (b0,b1,b8,bd) _ _ rfl (fun _ _ _=>rfl) ⟨?_,fun _ h2=>absurd ((hD 14 (by simp)).1.symm.trans h2) (by simp)⟩
show dm W0.drew P Z R b0 b1 b8 (d 0) (d 1) (d 8) (d 7) (d 14) true (d 16) w'
rw[d0]
exact hH'.zdd k1 k2 k3 k4 k5)
·(
obtain rfl:=so (show jg[16]? =some zyx from rfl) ho
have d15:=(hD 15 (by simp)).1
rw[d15] at hH'
refine zt (ztx a w _ _ _ _ _ _ (hD 15 (by simp)).2) (hk (b0,b1,b8,bd) _ _ rfl (fun _ _ _=>rfl) ⟨?_,fun _ h2=>absurd ((hD 14 (by simp)).1.symm.trans h2) (by simp)⟩)
show dm W0.drew P Z R b0 b1 b8 (d 0) (d 1) (d 8) (d 7) (d 14) (d 15) true w
rw[d15]
exact hH'.done))
·rintro ⟨b0,b1,b8,bd⟩ d w hd hH
 have hH':dm W0.drew P Z R b0 b1 b8 (d 0) (d 1) (d 8) (d 7) (d 14) (d 15) (d 16) w:=hH.1
 exact hQ w b0 b1 b8 bd (hdr hH'.but) (hH'.s0 (hd 0 (by omega))).1 (hH'.hr (hd 15 (by omega))).2)
theorem zul (zb xb yb:Nat) (x y:Int) (nx ny:Nat) (w:World) (hz0:Slot w zb 0) (hz2:Slot w zb 2) (hx:o5 w xb) (hx0:x=0) (hnx1:(nx:Int)=1) (hy:qd w yb y (ny:Int)) (hny:0<ny) (hxl:(wd 4294967296 x.natAbs).length<8388608) (hyl:(wd 4294967296 y.natAbs).length<8388608) (hnxl:(wd 4294967296 nx).length<8388608) (hnyl:(wd 4294967296 ny).length<8388608) (P Z R D:Int) (hP:x*(ny:Int)=P) (hZ:y*(nx:Int)=Z) (hR:R=P+Z) (hD:(nx:Int)*(ny:Int)=D) (hPl:(wd 4294967296 P.natAbs).length<8388608) (hZl:(wd 4294967296 Z.natAbs).length<8388608) (hRl:(wd 4294967296 R.natAbs).length<8388608) (hDl:(wd 4294967296 D.natAbs).length<8388608) (hD0:D≠0) (A B:Int) (eA:Hid (A=zeq (if D<0 then -R else R) D.natAbs)) (eB:Hid (B=zer R D.natAbs)) :
  Calls prog 162 #[.pointer (some ⟨zb,0,none⟩),.pointer (some ⟨xb,0,none⟩),.pointer (some ⟨yb,0,none⟩)] w fun e w'=>e=.returned (.pointer (some ⟨zb,0,none⟩))∧But [zb] w w'∧qd w' zb A B:=by(
have HX:=af hx
have HY:=af hy
have HZ0:=af hz0
have HZ2:=af hz2
have REG:=af (fun (Q:Exit→Act→World→Prop) (base:Act) (hs:23<base.tmps.size) (e1:base.eval (.tmp 1)=.pointer (some ⟨xb,0,none⟩)) (e2:base.eval (.tmp 2)=.pointer (some ⟨yb,0,none⟩))=>zze 1 Q base w xb yb x y P Z R nx ny hs e1 e2 hx hx0 hnx1 hy hny hxl hyl hnxl hnyl hP hZ hR hPl hZl hRl)
have DX:=af (fun W (h:o5 W xb)=>zqg xb W h)
have DY:=af (fun W (h:qd W yb y (ny:Int))=>ou yb y ny W h hny)
have MU:=af (fun (A q:Nat) (w P:World) (hs:Slot P A 0) (hw:But [] w P) (hA:w.heap.size≤A) (hx:za P q 0 1) (hy:qd P yb y (ny:Int)) (n1:A≠q) (n2:A≠yb)=>zkv A q 0 yb 2 (nx:Int) (ny:Int) D hD w P hs hw hA (by rw[hnx1];exact hx) hy.low n1 n2 (by rw[Int.natAbs_natCast];exact hnxl) (by rw[Int.natAbs_natCast];exact hnyl) hDl)
have SF:=af (fun (b0 b1:Nat) (W:World) (h0:Slot W zb 0) (h2:Slot W zb 2) (ha:za W b0 0 R) (hb:za W b1 0 D)=>uh zb b0 0 b1 0 R D W h0 h2 ha hb hRl hDl hD0 A B eA eB)
clear hx hy hz0 hz2 hny hx0 hnx1 hxl hyl hnxl hnyl hP hZ hR hD hPl hZl hRl hDl hD0 eA eB
go_enter func162,ntmps162
go_wp2_with fail
refine ae REG _ _ (by simp) (by simp[Act.eval]) (by simp[Act.eval]) ?_
intro w1 b0 b1 b8 bd hb1 hb0 hI
simp only[bi,List.foldl_cons,List.foldl_nil,Act.put,List.setIfInBounds_toArray,List.set_cons_zero,List.set_cons_succ]
obtain⟨W0,hW0⟩:∃ W0,W0=w1.alloc (.cells #[.bool false,.slice none 0 0] 111):=⟨_,rfl⟩
have hs:=ku w1 111
rw[← hW0] at hs
have hbw:But [] w1 W0:=by rw[hW0];exact (But.refl _ _).alloc _
have hb2:=hb1.trans' hbw
have K0:=af (And.intro hs (And.intro hbw (And.intro hb1 (And.intro hb0 hI))))
have KX:=af ((ae HX).but hb2)
have KY:=af ((ae HY).but hb2)
have HW0:=af hW0
clear hW0 hs hbw hb1 hb0 hb2 hI
obtain⟨g,hg⟩:∃ g,g=w1.heap.size:=⟨_,rfl⟩
go_wp2_with fail
rw[← ae HW0,← hg]
rw[← hg] at K0
have HG:=af hg
clear hg
refine (ae DX _ (ae KX)).mono ?_
rintro e w2 ⟨q,rfl,hq,hbq,hIq⟩
have hlg:g<W0.heap.size:=(ae K0).1.lt
have KY2:=af ((ae KY).but hbq)
have KQ:=af (And.intro hIq (And.intro ((ae K0).1.but hbq (by simp)) (And.intro ((ae K0).2.1.trans' hbq) (Nat.ne_of_lt (Nat.lt_of_lt_of_le hlg hq)))))
clear hq hbq hIq hlg
go_wp2_with fail
refine (ae DY _ (ae KY2)).mono ?_
rintro e w3 ⟨rfl,hw⟩
obtain rfl:=hw.symm
clear hw
go_wp2_with fail
refine (ae MU g q w1 w2 (ae KQ).2.1 (ae KQ).2.2.1 (Nat.le_of_eq (ae HG).symm) (ae KQ).1 (ae KY2) (ae KQ).2.2.2 (by
 have h1:=(ae HY).lt
 have h2:=(ae K0).2.2.1.size
 have h3:=ae HG
 omega)).mono ?_
rintro e w4 ⟨rfl,k1,k2,k3,k4,k5⟩
have FIN:Hid (Slot w4 zb 0∧Slot w4 zb 2∧za w4 b0 0 R∧za w4 g 0 D∧But [] w w4):=by
 obtain⟨hs,hbw,hb1,hb0,hI⟩:=ae K0
 have hb3:=hb1.trans' k1
 exact⟨(ae HZ0).but hb3 (by simp),(ae HZ2).but hb3 (by simp),hI.but k1,k2,hb3⟩
clear k1 k2 k3 k4 k5 K0 KX KY KY2 KQ HW0 HG MU DX DY REG HX HY HZ0 HZ2
go_wp2_with fail
refine (ae SF b0 g _ (ae FIN).1 (ae FIN).2.1 (ae FIN).2.2.1 (ae FIN).2.2.2.1).mono ?_
rintro e w3 ⟨rfl,k1,k2⟩
have F3:=af (And.intro ((ae FIN).2.2.2.2.of_nil.trans k1 (fun x hx=>.inl hx)) k2)
clear k1 k2 FIN SF
go_wp2
go_ret
exact⟨rfl,(ae F3).1,(ae F3).2⟩)
theorem zrp (xb yb:Nat) (f g:Rat) (w:World) (hf0:f=0) (hx:o5 w xb) (hy:zi w yb g) (lf:ja f 2000000) (lg:ja g 2000000) :
  Calls prog 82 #[.pointer (some ⟨xb,0,none⟩),.pointer (some ⟨yb,0,none⟩)] w fun e w'=>∃ zb,e=.returned (.pointer (some ⟨zb,0,none⟩))∧But [] w w'∧zi w' zb (f+g)∧w.heap.size≤zb:=by(
have hfd:0<f.den:=Nat.pos_of_ne_zero f.den_nz
have hgd:0<g.den:=Nat.pos_of_ne_zero g.den_nz
have hQ0:(f.den:Int)*(g.den:Int)≠0:=Int.mul_ne_zero (by omega) (by omega)
obtain⟨e1,e2⟩:=zht (f.num*(g.den:Int)+g.num*(f.den:Int)) ((f.den:Int)*(g.den:Int)) hQ0 (f+g) (zhd f g)
obtain⟨W0,hW0⟩:∃ W0,W0=w.alloc (.cells #[.bool false,.slice none 0 0,.bool false,.slice none 0 0] 113):=⟨_,rfl⟩
have hs:=zfa w 113
have hbw:But [] w W0:=by rw[hW0];exact (But.refl _ _).alloc _
rw[← hW0] at hs
obtain⟨lf1,lf2⟩:=lf
obtain⟨lg1,lg2⟩:=lg
have d1:(wd 4294967296 ((f.den:Nat):Int).natAbs).length≤2000000:=by rw[Int.natAbs_natCast];exact lf2
have d2:(wd 4294967296 ((g.den:Nat):Int).natAbs).length≤2000000:=by rw[Int.natAbs_natCast];exact lg2
have p1:=j6 f.num (g.den:Int) _ _ lf1 d2
have p2:=j6 g.num (f.den:Int) _ _ lg1 d1
have p3:=j6 (f.den:Int) (g.den:Int) _ _ d1 d2
have p4:=zee _ _ _ p1 p2
have MU:=af (zul w.heap.size xb yb f.num g.num f.den g.den W0 hs.1 hs.2 (hx.but hbw) (by rw[hf0];rfl) (by rw[hf0];rfl) (qd.but hy hbw) hgd (by omega) (by omega) (by omega) (by omega) _ _ _ _ rfl rfl rfl rfl (by omega) (by omega) (by omega) (by omega) hQ0 (f+g).num ((f+g).den:Int) e1 e2)
have HW0:=af hW0
have HBW:=af hbw
clear hW0 hbw hs e1 e2 hQ0 p1 p2 p3 p4 d1 d2 lf1 lf2 lg1 lg2 hx hy hfd hgd
go_enter func82,ntmps82
go_wp2_with fail
rw[← ae HW0]
refine (ae MU).mono ?_
rintro e w1 ⟨rfl,h1,h2⟩
have FIN:=af (And.intro ((ae HBW).trans h1 (by simp)) h2)
clear h1 h2 MU
go_wp2
go_ret
exact⟨w.heap.size,rfl,(ae FIN).1,(ae FIN).2,Nat.le_refl _⟩)
def sgR (f:Nat→Rat):Nat→Rat
 | 0=>0
 | k+1=>sgR f k+f k
theorem mi (f g:Nat→Rat):∀ n,(∀ k,k<n→f k=g k)→sgR f n=sgR g n
 | 0,_=>rfl
 | n+1,h=>by
  show sgR f n+f n=sgR g n+g n
  rw[mi f g n (fun k hk=>h k (by omega)),h n (by omega)]
theorem zzq (f g:Nat→Rat):∀ n,sgR (fun k=>f k+g k) n=sgR f n+sgR g n
 | 0=>by
  show (0:Rat)=0+0
  grind
 | n+1=>by
  show sgR _ n+(f n+g n)=sgR f n+f n+(sgR g n+g n)
  rw[zzq f g n];grind
theorem ztn:∀ n,sgR (fun _=>0) n=0
 | 0=>rfl
 | n+1=>by
  show sgR (fun _=>0) n+0=0
  rw[ztn n];grind
theorem zqz (i:Nat) (c:Nat→Rat):∀ n,sgR (fun t=>if t=i then c t else 0) n=if i<n then c i else 0
 | 0=>rfl
 | n+1=>by
  show sgR _ n+(if n=i then c n else 0)=_
  rw[zqz i c n]
  by_cases h:n=i
  ·subst h
   rw[if_neg (Nat.lt_irrefl _),if_pos rfl,if_pos (by omega)];grind
  ·rw[if_neg h]
   by_cases h2:i<n
   ·rw[if_pos h2,if_pos (by omega)];grind
   ·rw[if_neg h2,if_neg (by omega)];grind
theorem zml (f:Nat→Rat):∀ n,(∀ k,k<n→0≤f k)→0≤sgR f n
 | 0,_=>by
  show (0:Rat)≤0
  decide
 | n+1,h=>by
  have h1:=zml f n (fun k hk=>h k (by omega))
  have h2:=h n (by omega)
  show 0≤sgR f n+f n
  grind
theorem zto (f:Nat→Rat) (m:Nat):∀ d,(∀ k,m≤k→f k=0)→sgR f (m+d)=sgR f m
 | 0,_=>rfl
 | d+1,h=>by
  show sgR f (m+d)+f (m+d)=_
  rw[zto f m d h,h _ (by omega)];grind
def dnL (n:Nat):Nat→List Nat
 | 0=>[]
 | d+1=>dnL n d++[n-(d+1)]
theorem zfw (f:Nat→Rat) (c:Rat):∀ n,sgR (fun k=>c*f k) n=c*sgR f n
 | 0=>by
  show (0:Rat)=c*0
  grind
 | n+1=>by
  show sgR (fun k=>c*f k) n+c*f n=c*(sgR f n+f n)
  rw[zfw f c n];grind
def qas (w:World) (b:Nat) (f:Rat):Prop:=zi w b f∨(f=0∧o5 w b)
theorem qkz (xb yb:Nat) (f g:Rat) (w:World) (hx:qas w xb f) (hy:zi w yb g) (lf:ja f 2000000) (lg:ja g 2000000) :
  Calls prog 82 #[.pointer (some ⟨xb,0,none⟩),.pointer (some ⟨yb,0,none⟩)] w fun e w'=>∃ zb,e=.returned (.pointer (some ⟨zb,0,none⟩))∧zi w' zb (f+g)∧But [] w w':=by(
rcases hx with h|⟨h0,h⟩
·exact zlq xb yb f g w h hy lf lg
·exact (zrp xb yb f g w h0 h hy lf lg).mono fun e w' ⟨zb,he,hb,hr,_⟩=>⟨zb,he,hr,hb⟩)
theorem zsg {F:Nat→Rat} {c:Nat}:∀ n,(∀ i,i<n→ja (F i) c)→ja (sgR F n) (n*(c+1)+1)
 | 0,_=>by
  have:=ja.int (z:=0) (by decide)
  exact⟨by show (wd 4294967296 0).length≤_;rw[zh];simp,by show (wd 4294967296 1).length≤_;exact Nat.le_trans (aj (B:=4294967296) (by omega) 1 1 (by omega)) (by omega)⟩
 | n+1,h=>((zsg n (fun i hi=>h i (by omega))).add (h n (by omega))).mono (by rw[Nat.succ_mul];omega)
theorem qqp (v:Value) (r:Rat) (b:Nat) (w:World) (hv:am w v r) (hb:zi w b r) (lr:Len r 1000000) (htab:Lib.TabIs prog w "internal/strconv.uint64pow10" .u64 Lib.pow10Tab) :
  Calls prog 21 #[v,.nilIface,.pointer (some ⟨b,0,none⟩),.int .i64 0] w fun e w'=>e=.returned (.bool true)∧But [] w w':=by(
obtain⟨t,ht⟩:∃ t,t=ut (decide (r.num<0)) r.num.natAbs r.den:=⟨_,rfl⟩
have T1:=af (fun W (h:But [] w W)=>zeg v r W (hv.but h) (lr.mono (by omega)) (TabIs.but htab h) t ht)
have T2:=af (fun W (h:But [] w W)=>zue b r W (hb.but h) ((zdo lr).mono (by omega)) t (ht.trans (qev r)))
obtain⟨x,y,p,rfl,-⟩:=id hv.agg
clear hv hb lr htab ht
generalize decide (r.num<0)=s at *
obtain⟨V,hV⟩:∃ V,V=w.alloc (.cells #[.bool s,.int .u64 x,.int .u64 y,.pointer p] 27):=⟨_,rfl⟩
obtain⟨g,hg⟩:∃ g,g=w.heap.size:=⟨_,rfl⟩
have c0:V.cell? ⟨g,0,none⟩=some (.bool s):=by rw[hV,hg];simp
have c1:V.cell? ⟨g,1,none⟩=some (.int .u64 x):=by rw[hV,hg];simp
have c2:V.cell? ⟨g,2,none⟩=some (.int .u64 y):=by rw[hV,hg];simp
have c3:V.cell? ⟨g,3,none⟩=some (.pointer p):=by rw[hV,hg];simp
have bV:But [] w V:=by rw[hV];exact (But.refl _ _).alloc _
have BV:=af bV
have HV:=af hV
clear bV hV
go_enter func21,ntmps21
go_wp2_with fail
rw[← ae HV]
try rw[← hg]
clear hg HV
refine (ae T1 V (ae BV)).mono ?_
rintro e w1 ⟨rfl,B1⟩
have K1:=af ((ae BV).trans' B1)
clear B1 c0 c1 c2 c3
go_wp2_with fail
refine (ae T2 w1 (ae K1)).mono ?_
rintro e w2 ⟨rfl,B2⟩
have K2:=af ((ae K1).trans' B2)
clear B2
go_wp2
go_ret
exact⟨rfl,ae K2⟩)
theorem qlf (n:Int) (v b:Value) (w:World) (hv:am w v 0) (h0:(n != 0)=true) (htab:Lib.TabIs prog w "internal/strconv.uint64pow10" .u64 Lib.pow10Tab) (hg:w.cell? ⟨0,0,none⟩=some (.iface 219 (.agg #[.pointer (some ⟨7,29,none⟩)]))) :
  Calls prog 21 #[v,.iface 33 (.int .i64 n),b,.int .i64 n] w fun e w'=>e=.returned (.bool true)∧But [] w w':=by(
have TZ:=af (fun W (h:But [] w W)=>zeg v 0 W (hv.but h) qdn (TabIs.but htab h) ⟨#[48]⟩ qeu.symm)
have TE:=af (fun W (h:But [] w W)=>zgw n W (h.ag hg (by simp)))
obtain⟨x,y,p,rfl,-⟩:=id hv.agg
clear htab hg hv
generalize decide ((0:Rat).num<0)=s at *
obtain⟨V,hV⟩:∃ V,V=w.alloc (.cells #[.bool s,.int .u64 x,.int .u64 y,.pointer p] 27):=⟨_,rfl⟩
obtain⟨g,hg⟩:∃ g,g=w.heap.size:=⟨_,rfl⟩
have c0:V.cell? ⟨g,0,none⟩=some (.bool s):=by rw[hV,hg];simp
have c1:V.cell? ⟨g,1,none⟩=some (.int .u64 x):=by rw[hV,hg];simp
have c2:V.cell? ⟨g,2,none⟩=some (.int .u64 y):=by rw[hV,hg];simp
have c3:V.cell? ⟨g,3,none⟩=some (.pointer p):=by rw[hV,hg];simp
have bV:But [] w V:=by rw[hV];exact (But.refl _ _).alloc _
have BV:=af bV
have HV:=af hV
clear bV hV
go_enter func21,ntmps21
go_wp2_with fail
rw[← ae HV]
try rw[← hg]
clear hg HV
refine (ae TE V (ae BV)).mono ?_
rintro e w2 ⟨rfl,B3⟩
replace c0:=B3.ag c0 (by simp)
replace c1:=B3.ag c1 (by simp)
replace c2:=B3.ag c2 (by simp)
replace c3:=B3.ag c3 (by simp)
have B4:=af ((ae BV).trans' B3)
clear B3
go_wp2_with fail
refine (ae TZ _ (ae B4)).mono ?_
rintro e w3 ⟨rfl,B5⟩
have B6:=af ((ae B4).trans' B5)
clear B5
go_wp2
go_ret
exact⟨rfl,ae B6⟩)
end Go.Proofs.YtagmkkiagjmimaaGreatDoor
