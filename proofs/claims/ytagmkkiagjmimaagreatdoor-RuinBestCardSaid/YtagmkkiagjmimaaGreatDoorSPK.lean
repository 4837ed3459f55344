/- Layers and worst parts, plain: sums over -/
import Derived.Test.YtagmkkiagjmimaaGreatDoorProg
import Derived.LaidEql
import Derived.Stop.Asserts
import Derived.RowKitTokens
import Derived.Test.YtagmkkiagjmimaaGreatDoorSHNr
import Derived.Test.YtagmkkiagjmimaaGreatDoorST3
namespace Go.Proofs.YtagmkkiagjmimaaGreatDoor
open Go.Proofs.Tryz
set_option maxHeartbeats 16000000
set_option maxRecDepth 100000
def sgR (f:Nat→Rat):Nat→Rat
 | 0=>0
 | k+1=>sgR f k+f k
theorem zcg (f g:Nat→Rat):∀ n,(∀ k,k<n→f k=g k)→sgR f n=sgR g n
 | 0,_=>rfl
 | n+1,h=>by
  show sgR f n+f n=sgR g n+g n
  rw[zcg f g n (fun k hk=>h k (by omega)),h n (by omega)]
theorem zvr (f g:Nat→Rat):∀ n,sgR (fun k=>f k+g k) n=sgR f n+sgR g n
 | 0=>by
  show (0:Rat)=0+0
  grind
 | n+1=>by
  show sgR _ n+(f n+g n)=sgR f n+f n+(sgR g n+g n)
  rw[zvr f g n];grind
theorem zqe:∀ n,sgR (fun _=>0) n=0
 | 0=>rfl
 | n+1=>by
  show sgR (fun _=>0) n+0=0
  rw[zqe n];grind
theorem zof (i:Nat) (c:Nat→Rat):∀ n,sgR (fun t=>if t=i then c t else 0) n=if i<n then c i else 0
 | 0=>rfl
 | n+1=>by
  show sgR _ n+(if n=i then c n else 0)=_
  rw[zof i c n]
  by_cases h:n=i
  ·subst h
   rw[if_neg (Nat.lt_irrefl _),if_pos rfl,if_pos (by omega)];grind
  ·rw[if_neg h]
   by_cases h2:i<n
   ·rw[if_pos h2,if_pos (by omega)];grind
   ·rw[if_neg h2,if_neg (by omega)];grind
theorem zqf (f:Nat→Rat) (m:Nat):∀ d,(∀ k,m≤k→f k=0)→sgR f (m+d)=sgR f m
 | 0,_=>rfl
 | d+1,h=>by
  show sgR f (m+d)+f (m+d)=_
  rw[zqf f m d h,h _ (by omega)];grind
def dnL (n:Nat):Nat→List Nat
 | 0=>[]
 | d+1=>dnL n d++[n-(d+1)]
theorem zji (f:Nat→Rat) (c:Rat):∀ n,sgR (fun k=>c*f k) n=c*sgR f n
 | 0=>by
  show (0:Rat)=c*0
  grind
 | n+1=>by
  show sgR (fun k=>c*f k) n+c*f n=c*(sgR f n+f n)
  rw[zji f c n];grind
theorem zvq (f g:Nat→Rat):∀ n,sgR (fun k=>f k-g k) n=sgR f n-sgR g n
 | 0=>by
  show (0:Rat)=0-0
  grind
 | n+1=>by
  show sgR _ n+(f n-g n)=sgR f n+f n-(sgR g n+g n)
  rw[zvq f g n];grind
def zn (r:Rat):Nat→Rat
 | 0=>1
 | k+1=>zn r k*r
theorem zrb (r:Rat) (h:0<r):∀ k,0<zn r k
 | 0=>by
  show (0:Rat)<1
  decide
 | k+1=>Rat.mul_pos (zrb r h k) h
theorem zcj (r:Rat) (a:Nat):∀ b,zn r (a+b)=zn r a*zn r b
 | 0=>by
  show zn r a=zn r a*1
  grind
 | b+1=>by
  have:=zcj r a b
  show zn r (a+b)*r=zn r a*(zn r b*r)
  grind
def zoz (f:Nat→Rat) (o u:Rat) (q:Rat × Rat) (k:Nat):Rat × Rat:=(q.1*o+f k*q.2,q.2*u)
def dw (f:Nat→Rat) (o u:Rat) (l:List Nat):Rat × Rat:=l.foldl (zoz f o u) (0,1)
theorem zng (f:Nat→Rat) (o u:Rat) (n:Nat):∀ d,d≤n→(dw f o u (dnL n d)).2=zn u d∧(dw f o u (dnL n d)).1*zn o (n-d)=sgR (fun j=>if n-d≤j then f j*zn o j*zn u (n-1-j) else 0) n
 | 0,_=>by
  refine⟨rfl,?_⟩
  show 0*zn o (n-0)=_
  rw[zcg _ (fun _=>0) n (fun k hk=>by rw[if_neg (by omega)]),zqe];grind
 | d+1,h=>by
  obtain⟨h1,h2⟩:=zng f o u n d (by omega)
  have es:dw f o u (dnL n (d+1))=zoz f o u (dw f o u (dnL n d)) (n-(d+1)):=by
   unfold dw
   rw[show dnL n (d+1)=dnL n d++[n-(d+1)] from rfl,List.foldl_append];rfl
  rw[es]
  unfold zoz
  refine⟨by rw[h1];rfl,?_⟩
  show ((dw f o u (dnL n d)).1*o+f (n-(d+1))*(dw f o u (dnL n d)).2)*zn o (n-(d+1))=_
  rw[h1]
  have e1:zn o (n-d)=zn o (n-(d+1))*o:=by
   rw[show n-d=(n-(d+1))+1 from by omega];rfl
  rw[e1] at h2
  have e2:sgR (fun j=>if n-(d+1)≤j then f j*zn o j*zn u (n-1-j) else 0) n=sgR (fun j=>(if n-d≤j then f j*zn o j*zn u (n-1-j) else 0)+(if j=n-(d+1) then f j*zn o j*zn u (n-1-j) else 0)) n:=zcg _ _ n (fun j hj=>by
   by_cases ha:n-d≤j
   ·rw[if_pos (by omega),if_pos ha,if_neg (by omega)];grind
   ·by_cases hb:j=n-(d+1)
    ·rw[if_pos (by omega),if_neg ha,if_pos hb];grind
    ·rw[if_neg (by omega),if_neg ha,if_neg hb];grind)
  rw[e2,zvr,← h2,zof (n-(d+1)) (fun j=>f j*zn o j*zn u (n-1-j)),if_pos (by omega),show n-1-(n-(d+1))=d from by omega]
  grind
theorem zmy (o u r:Rat) (h:o=r*u):∀ k,zn o k=zn r k*zn u k
 | 0=>by
  show (1:Rat)=1*1
  grind
 | k+1=>by
  have:=zmy o u r h k
  show zn o k*o=zn r k*r*(zn u k*u)
  rw[this,h];grind
theorem qdd (f:Nat→Rat) (o u r:Rat) (n:Nat) (hn:0<n) (h:o=r*u):(dw f o u (dnL n n)).1=zn u (n-1)*sgR (fun j=>f j*zn r j) n:=by(
 have h2:=(zng f o u n n (Nat.le_refl _)).2
 rw[Nat.sub_self] at h2
 have e:(dw f o u (dnL n n)).1=(dw f o u (dnL n n)).1*zn o 0:=by
  show _=_*1
  grind
 rw[e,h2,← zji]
 refine zcg _ _ n (fun j hj=>?_)
 rw[if_pos (Nat.zero_le _),zmy o u r h j]
 have e3:=zcj u j (n-1-j)
 rw[show j+(n-1-j)=n-1 from by omega] at e3
 rw[e3];grind)
open Go.RowKit
theorem zwg {a b:ByteArray} (h:a.data.toList=b.data.toList):a=b:=by
 cases a;cases b;simp only[ByteArray.mk.injEq];exact Array.ext' h
theorem zgh (a b:ByteArray):(a++b).data.toList=a.data.toList++b.data.toList:=by simp
theorem qag (x:Rat):oz (decide (x.num<0)) x.num.natAbs x.den=zhi x.num x.den:=by(
 apply zwg
 have e:zba x.num=(if decide (x.num<0) then [45] else [])++Lib.decDigits x.num.natAbs:=by
  rw[zba]
  by_cases h:x.num<0
  ·rw[if_pos h,decide_eq_true h];rfl
  ·rw[if_neg h,decide_eq_false h];rfl
 have e2:zba (x.den:Int)=Lib.decDigits x.den:=by rw[zba,if_neg (by omega),Int.natAbs_natCast]
 generalize decide (x.num<0)=r at *
 rw[oz,zhi,zgh]
 by_cases hq:x.den=1
 ·rw[if_pos hq,if_pos hq,e]
  cases r <;> simp
 ·rw[if_neg hq,if_neg hq,zgh,zgh,zgh,e,e2]
  cases r <;> simp)
theorem qaf:oz false 0 1=⟨#[48]⟩:=by(
 rw[oz]
 have:Lib.decDigits 0=[48]:=by rw[Lib.decDigits,dif_pos (by omega)];rfl
 rw[this]
 apply zwg
 rw[zgh];rfl)
theorem zyy:Len (0:Rat) 1000000:=⟨by show (wd 18446744073709551616 0).length≤_;rw[zh];simp,Nat.le_trans (aj (B:=18446744073709551616) (by omega) 1 1 (by omega)) (by omega)⟩
theorem zef {f:Rat} {n:Nat} (h:Len f n):qw f (2*n):=by(
 have h1:=ak (B:=18446744073709551616) (by omega) _ n h.1
 have h2:=ak (B:=18446744073709551616) (by omega) _ n h.2
 have e:(18446744073709551616:Nat)^n=4294967296^(2*n):=by rw[Nat.pow_mul]
 rw[e] at h1 h2
 exact⟨aj (by omega) _ _ h1,aj (by omega) _ _ h2⟩)
set_option linter.unusedVariables false
theorem zbk (z:Int) (w:World) (h1:-9223372036854775808≤z) (h2:z<9223372036854775808) :
  Calls prog 19 #[.int .i64 z] w fun e w'=>∃ zb,e=.returned (.pointer (some ⟨zb,0,none⟩))∧zi w' zb (((z:Int):Rat))∧But [] w w':=by
 obtain⟨i1,i2⟩:=bj z
 exact (zkh z w h1 h2).mono fun e w' ⟨zb,he,hb,hr⟩=>⟨zb,he,by unfold zi;rw[i1,i2];exact hr,hb⟩
theorem zvw (xb yb:Nat) (f g:Rat) (w:World) (hx:zi w xb f) (hy:zi w yb g) (lf:qw f 2000000) (lg:qw g 2000000) :
  Calls prog 82 #[.pointer (some ⟨xb,0,none⟩),.pointer (some ⟨yb,0,none⟩)] w fun e w'=>∃ zb,e=.returned (.pointer (some ⟨zb,0,none⟩))∧zi w' zb (f+g)∧But [] w w' :=
 (ztq xb yb f g w hx hy lf lg).mono fun e w' ⟨zb,he,hb,hr,_⟩=>⟨zb,he,hr,hb⟩
theorem zok (xb yb:Nat) (f g:Rat) (w:World) (hx:zi w xb f) (hy:zi w yb g) (lf:qw f 2000000) (lg:qw g 2000000) :
  Calls prog 28 #[.pointer (some ⟨xb,0,none⟩),.pointer (some ⟨yb,0,none⟩)] w fun e w'=>∃ zb,e=.returned (.pointer (some ⟨zb,0,none⟩))∧zi w' zb (f*g)∧But [] w w' :=
 (zkg xb yb f g w hx hy lf lg).mono fun e w' ⟨zb,he,hb,hr,_⟩=>⟨zb,he,hr,hb⟩
theorem qfr (xb yb:Nat) (f g q:Rat) (w:World) (hx:zi w xb f) (hy:zi w yb g) (lf:qw f 2000000) (lg:qw g 2000000) (hg0:g.num≠0) (hq:q*g=f) :
  Calls prog 26 #[.pointer (some ⟨xb,0,none⟩),.pointer (some ⟨yb,0,none⟩)] w fun e w'=>∃ zb,e=.returned (.pointer (some ⟨zb,0,none⟩))∧zi w' zb (q)∧But [] w w' :=
 (zqt xb yb f g q w hx hy lf lg hg0 hq).mono fun e w' ⟨zb,he,hb,hr,_⟩=>⟨zb,he,hr,hb⟩
theorem qbc (b:Nat) (f:Rat) (w:World) (h:zi w b f) (s:Int) (hs:s=f.num.sign) (hl:qw f 2000000) :
  Calls prog 44 #[.pointer (some ⟨b,0,none⟩)] w fun e w'=>e=.returned (.int .i64 s)∧But [] w w' :=
 (zdz b f.num (f.den:Int) w h s hs (by have:=hl.1;omega)).mono fun e w' ⟨he,hw⟩=>⟨he,by rw[hw];exact But.refl _ _⟩
theorem qw.int {z:Int} (h:z.natAbs<18446744073709551616):qw ((z:Int):Rat) 2:=by
 obtain⟨i1,i2⟩:=bj z
 exact⟨by rw[i1];exact ji _ h,by rw[i2];exact ji _ (by omega)⟩
open Go.RowKit Go.Extern.Stop Go.Stop Go.Extern
theorem qad (t:Addr) (w:World):(ReflectliteValue.unpack (.iface 101 (.pointer (some t)))).run prog w
  = .ok (.agg #[.pointer (some ⟨7,101,none⟩),.pointer (some ⟨w.heap.size,0,none⟩),.int .u64 150]) (w.alloc (.cells #[.pointer (some t)] 101)):=by kernel_rfl
theorem qjg (a:Addr) (w:World):(ReflectliteValue.methodAny (ReflectliteValue.valueError "reflectlite.Value.Type" 0) (fun t _ _ _=>ReflectliteType.toType t) #[.agg #[.pointer (some ⟨7,101,none⟩),.pointer (some a),.int .u64 150]]).run prog w
  = .ok (.iface 219 (.agg #[.pointer (some ⟨7,101,none⟩)])) w:=by kernel_rfl
theorem qjn (w:World):((ReflectliteType.abiMethod fun t=>(fun a:Nat=>Value.int IntKind.u8 (a:Int)) <$> Rtype.kind t) #[.pointer (some ⟨7,101,none⟩)]).run prog w=.ok (.int .u8 22) w:=by kernel_rfl
theorem qjo (w:World):((ReflectliteType.abiMethod fun t=>(fun a:Nat=>Value.int IntKind.u8 (a:Int)) <$> Rtype.kind t) #[.pointer (some ⟨7,33,none⟩)]).run prog w=.ok (.int .u8 2) w:=by kernel_rfl
theorem qae (n:Int) (w:World):(ReflectliteValue.unpack (.iface 33 (.int .i64 n))).run prog w
  = .ok (.agg #[.pointer (some ⟨7,33,none⟩),.pointer (some ⟨w.heap.size,0,none⟩),.int .u64 130]) (w.alloc (.cells #[.int .i64 n] 33)):=by kernel_rfl
theorem ztx (h:Value) (w:World):(Go.method 426 219 (.agg #[h]) "Kind").run prog w=.ok (289,h) w:=by kernel_rfl
theorem zty (h:Value) (w:World):(Go.method 426 219 (.agg #[h]) "Elem").run prog w=.ok (301,.agg #[h]) w:=by kernel_rfl
theorem zhn (h:Value) (w:World):(Go.method 426 219 (.agg #[h]) "Implements").run prog w=.ok (302,.agg #[h]) w:=by kernel_rfl
theorem zfk (h:Value) (w:World):(Go.method 426 219 (.agg #[h]) "AssignableTo").run prog w=.ok (299,.agg #[h]) w:=by kernel_rfl
theorem rlm (z:Sem Value) (f:TypeId→Addr→Nat→Nat→Sem Value) (v:Value) :
  ReflectliteValue.method z f #[v]=(do match ← ReflectliteValue.parts v with | none=>z | some (t,a,fl)=>f t a fl (fl%32)):=rfl
theorem qbn (a:Addr) (w:World):(ReflectliteValue.parts (.agg #[.pointer (some ⟨7,101,none⟩),.pointer (some a),.int .u64 150])).run prog w=.ok (some (101,a,150)) w:=by kernel_rfl
theorem qix (a p:Addr) (W:World) (ha:W.cell? a=some (.pointer (some p))) :
   (ReflectliteValue.method (ReflectliteValue.valueError "reflectlite.Value.IsNil" 0) ReflectliteValue.isNil #[.agg #[.pointer (some ⟨7,101,none⟩),.pointer (some a),.int .u64 150]]).run prog W=.ok (.bool false) W:=by(
 rw[rlm]
 simp only[Sem.run_bind,qbn,Result.andThen]
 simp[ReflectliteValue.isNil,loadVar,isAgg,underlying,underlying101,ha,Result.andThen])
theorem qjp (w:World):(ReflectliteType.method ReflectliteType.elem #[.agg #[.pointer (some ⟨7,101,none⟩)]]).run prog w=.ok (.iface 219 (.agg #[.pointer (some ⟨7,33,none⟩)])) w:=by kernel_rfl
theorem zrv (w:World):(ReflectliteType.relation "Implements" ReflectliteType.implements_ #[.agg #[.pointer (some ⟨7,33,none⟩)],.iface 219 (.agg #[.pointer (some ⟨7,29,none⟩)])]).run prog w=.ok (.bool true) w:=by kernel_rfl
theorem qey (v:Value) (w:World):(ReflectliteType.typeOf #[.iface 33 v]).run prog w=.ok (.iface 219 (.agg #[.pointer (some ⟨7,33,none⟩)])) w:=by kernel_rfl
theorem zsn (w:World):(ReflectliteType.relation "AssignableTo" ReflectliteType.assignableTo #[.agg #[.pointer (some ⟨7,33,none⟩)],.iface 219 (.agg #[.pointer (some ⟨7,33,none⟩)])]).run prog w=.ok (.bool true) w:=by kernel_rfl
theorem qgg (w:World):(Rtype.elem? 101).run prog w=.ok (some 33) w:=by kernel_rfl
theorem mkE (p:Addr) (w:World):(ReflectliteValue.mk 33 p ReflectliteValue.flagAddr).run prog w=.ok (.agg #[.pointer (some ⟨7,33,none⟩),.pointer (some p),.int .u64 386]) w:=by kernel_rfl
theorem qja (a p:Addr) (W:World) (ha:W.cell? a=some (.pointer (some p))) :
   (ReflectliteValue.method (ReflectliteValue.valueError "reflectlite.Value.Elem" 0) ReflectliteValue.elem #[.agg #[.pointer (some ⟨7,101,none⟩),.pointer (some a),.int .u64 150]]).run prog W
    = .ok (.agg #[.pointer (some ⟨7,33,none⟩),.pointer (some p),.int .u64 386]) W:=by(
 rw[rlm]
 simp only[Sem.run_bind,qbn,Result.andThen]
 simp[ReflectliteValue.elem,loadVar,isAgg,underlying,underlying101,ha,Result.andThen,qgg,mkE])
theorem rls (v x:Value):ReflectliteValue.set #[v,x]=(do
  let (some (dst,a,fl),some (src,b,_)):=(← ReflectliteValue.parts v,← ReflectliteValue.parts x)
   | unsupported (.noEntry "extern/(internal/reflectlite.Value).Set.zeroValue")
  if fl/ReflectliteValue.flagAddr%2==0 then unsupported (.noEntry "extern/(internal/reflectlite.Value).Set.unaddressable")
  let val ← loadVar src b
  if ← Rtype.directlyAssignable dst src then storeVar dst a val
  else if ← Rtype.implements dst src then
   if (← Rtype.kind src)==20 then
    match val with
    | .nilIface=>unsupported (.noEntry "extern/reflectlite: a nil value of one interface type handed on as a value of another")
    | _=>storeVar dst a val
   else storeVar dst a (.iface src val)
  else panicString ("reflectlite.Set: value of type "++(← Rtype.spelt src)++ " is not assignable to type "++(← Rtype.spelt dst))
  pure (.tuple #[])):=rfl
theorem qfv (a:Addr) (w:World):(ReflectliteValue.parts (.agg #[.pointer (some ⟨7,33,none⟩),.pointer (some a),.int .u64 386])).run prog w=.ok (some (33,a,386)) w:=by kernel_rfl
theorem qis (a:Addr) (w:World):(ReflectliteValue.parts (.agg #[.pointer (some ⟨7,33,none⟩),.pointer (some a),.int .u64 130])).run prog w=.ok (some (33,a,130)) w:=by kernel_rfl
theorem qgh (w:World):(Rtype.directlyAssignable 33 33).run prog w=.ok true w:=by kernel_rfl
theorem qjt (ta b:Addr) (n:Int) (old:Value) (W:World) (hb:W.cell? b=some (.int .i64 n)) (ht:W.cell? ta=some old) (hf:W.frozen? ta=false) :
   (ReflectliteValue.set #[.agg #[.pointer (some ⟨7,33,none⟩),.pointer (some ta),.int .u64 386],.agg #[.pointer (some ⟨7,33,none⟩),.pointer (some b),.int .u64 130]]).run prog W
    = .ok (.tuple #[]) (W.setCell ta (.int .i64 n)):=by(
 rw[rls]
 simp only[Sem.run_bind,qfv,qis,Result.andThen]
 simp[ReflectliteValue.flagAddr,loadVar,isAgg,underlying,underlying33,hb,Result.andThen,qgh,storeVar,Value.cells,storeCells,Addr.add]
 rw[run_store prog W ta _ _ (by rfl)]
 simp[ht,hf])
theorem zsz (n:Int) (w:World) (hg:w.cell? ⟨0,0,none⟩=some (.iface 219 (.agg #[.pointer (some ⟨7,29,none⟩)]))) :
   Calls prog 10 #[.iface 33 (.int .i64 n)] w fun e w'=>e=.returned (.int .i64 n)∧But [] w w':=by(
 have h22:=@run_callFunc_extern prog 135 _ (fun args=>ReflectliteValue.unpack (args.getD 0 (.tuple #[]))) func135 (by kernel_rfl) (by kernel_rfl) (by kernel_rfl) (by kernel_rfl)
 have h23:=@run_callFunc_extern prog 136 _ (ReflectliteValue.methodAny (ReflectliteValue.valueError "reflectlite.Value.Type" 0) (fun t _ _ _=>ReflectliteType.toType t)) func136 (by kernel_rfl) (by kernel_rfl) (by kernel_rfl) (by kernel_rfl)
 have h24:=@run_callFunc_extern prog 137 _ (ReflectliteValue.method (ReflectliteValue.valueError "reflectlite.Value.IsNil" 0) ReflectliteValue.isNil) func137 (by kernel_rfl) (by kernel_rfl) (by kernel_rfl) (by kernel_rfl)
 have h128:=@run_callFunc_extern prog 289 _ (ReflectliteType.abiMethod fun t=>do pure (.int .u8 (← Rtype.kind t))) func289 (by kernel_rfl) (by kernel_rfl) (by kernel_rfl) (by kernel_rfl)
 have h141:=@run_callFunc_extern prog 301 _ (ReflectliteType.method ReflectliteType.elem) func301 (by kernel_rfl) (by kernel_rfl) (by kernel_rfl) (by kernel_rfl)
 have h142:=@run_callFunc_extern prog 302 _ (ReflectliteType.relation "Implements" ReflectliteType.implements_) func302 (by kernel_rfl) (by kernel_rfl) (by kernel_rfl) (by kernel_rfl)
 have h40:=@run_callFunc_extern prog 184 _ ReflectliteType.typeOf func184 (by kernel_rfl) (by kernel_rfl) (by kernel_rfl) (by kernel_rfl)
 have h139:=@run_callFunc_extern prog 299 _ (ReflectliteType.relation "AssignableTo" ReflectliteType.assignableTo) func299 (by kernel_rfl) (by kernel_rfl) (by kernel_rfl) (by kernel_rfl)
 have h41:=@run_callFunc_extern prog 185 _ (ReflectliteValue.method (ReflectliteValue.valueError "reflectlite.Value.Elem" 0) ReflectliteValue.elem) func185 (by kernel_rfl) (by kernel_rfl) (by kernel_rfl) (by kernel_rfl)
 have h42:=@run_callFunc_extern prog 186 _ ReflectliteValue.set func186 (by kernel_rfl) (by kernel_rfl) (by kernel_rfl) (by kernel_rfl)
 have tO:=qey
 have mA:=zfk
 have aE:=zsn
 have vE:=qae
 have vT:=qad
 have tT:=qjg
 have mK:=ztx
 have mE:=zty
 have mI:=zhn
 have kT:=qjn
 have kE:=qjo
 have eT:=qjp
 have iE:=zrv
 have nT:=qix
 have eV:=qja
 have st:=qjt ⟨w.heap.size,0,none⟩ ⟨w.heap.size+1+1+1+1,0,none⟩ n (.int .i64 0) (((((w.alloc (.cells #[.int .i64 0] 33)).alloc (.cells #[.pointer (some ⟨w.heap.size,0,none⟩)] 101)).alloc (.cells #[.pointer (some ⟨7,101,none⟩),.pointer (some ⟨w.heap.size+1,0,none⟩),.int .u64 150] 169)).alloc (.cells #[.pointer (some ⟨7,101,none⟩),.pointer (some ⟨w.heap.size+1,0,none⟩),.int .u64 150] 169)).alloc (.cells #[.int .i64 n] 33))
  (by rw[World.cell?_alloc_at _ _ _ _ (by simp)];rfl)
  (by rw[World.cell?_alloc_lt _ _ _ (by simp;omega),World.cell?_alloc_lt _ _ _ (by simp;omega),World.cell?_alloc_lt _ _ _ (by simp;omega),World.cell?_alloc_lt _ _ _ (by simp),World.cell?_alloc_new];rfl)
  (by rw[World.frozen?_alloc_old _ _ _ (by simp;omega),World.frozen?_alloc_old _ _ _ (by simp;omega),World.frozen?_alloc_old _ _ _ (by simp;omega),World.frozen?_alloc_old _ _ _ (by simp),World.frozen?_alloc_new])
 have hlt : 0 < w.heap.size:=ai hg
 have hg3:∀ o1 o2 o3,(((w.alloc o1).alloc o2).alloc o3).cell? ⟨0,0,none⟩=some (.iface 219 (.agg #[.pointer (some ⟨7,29,none⟩)])):=fun o1 o2 o3=>by
  rw[World.cell?_alloc_lt _ _ ⟨0,0,none⟩ (by first | (simp;done) | (simp;omega)),World.cell?_alloc_lt _ _ ⟨0,0,none⟩ (by first | (simp;done) | (simp;omega)),World.cell?_alloc_lt _ _ ⟨0,0,none⟩ hlt];exact hg
 go_enter func10,ntmps10
 go_wp2
 refine wp_loop_rounds 1 ?_
 rw[rounds_succ]
 go_wp2
 go_ret
 refine⟨rfl,?_⟩
 repeat (first | exact But.refl _ _ | refine But.alloc ?_ _ | refine But.drew ?_ | refine But.setCell ?_ (.inr (by simp)) _))
theorem zxx {α:Type} {F:Nat→α} {l:List α} (h:∀ i x,l[i]? = some x→F i=x):(List.range l.length).map F=l:=by(
 apply List.ext_getElem?
 intro i
 rw[List.getElem?_map]
 by_cases hi:i<l.length
 ·rw[List.getElem?_range hi,List.getElem?_eq_getElem hi]
  exact congrArg some (h i _ (List.getElem?_eq_getElem hi))
 ·rw[List.getElem?_eq_none (by simpa using hi),List.getElem?_eq_none (by simpa using hi)]
  rfl)
theorem qbi (q:Int × Int) (h:Fits q):(qf q).num*(if q.2=0 then 1 else q.2)=q.1*((qf q).den:Int):=by(
 obtain⟨f,r,x,y,-,hf,-⟩:=zkm q.1 q.2 h.1 h.2.1 h.2.2.1 h.2.2.2
 rw[← qgp f q hf]
 exact hf)
theorem zqs (v:Value) (qs:List (Int × Int)) (w:World) (hq:zss w v qs) (hf:∀ q ∈ qs,Fits q) (hn:qs.length≤1000) :
   Calls prog 15 #[v] w fun e w'=>∃ v' us,e=.returned v'∧zez w' w.heap.size v' (qs.map qf) us∧But [] w w':=by(
 obtain⟨a,cap,rfl,hcap,hc⟩:=hq
 obtain⟨F,hF⟩:∃ F:Nat→Rat,F=fun i=>qf (qs[i]?.getD (0,0)):=⟨_,rfl⟩
 have hL:(List.range qs.length).map F=qs.map qf:=by
  have:=zxx (F:=F) (l:=qs.map qf) (fun i x hx=>by
   rw[List.getElem?_map] at hx
   cases h:qs[i]? with
   | none=>rw[h] at hx;simp at hx
   | some q=>rw[h] at hx;rw[hF];simp only[h,Option.getD_some];simpa using hx)
  rwa [List.length_map] at this
 have hcell:∀ i,i<qs.length→∃ b off,a=some ⟨b,off,none⟩∧w.cell? ⟨b,off+i*2,none⟩=some (.int .i64 (qs[i]?.getD (0,0)).1)∧w.cell? ⟨b,off+i*2+1,none⟩=some (.int .i64 (qs[i]?.getD (0,0)).2):=fun i hi=>by
  rw[List.getElem?_eq_getElem hi]
  exact hc i _ (List.getElem?_eq_getElem hi)
 have hOF:∀ i,i<qs.length→∀ W,Calls prog 14 #[.agg #[.int .i64 (qs[i]?.getD (0,0)).1,.int .i64 (qs[i]?.getD (0,0)).2]] W fun e w'=>∃ zb,e=.returned (.pointer (some ⟨zb,0,none⟩))∧zi w' zb (F i)∧But [] W w':=fun i hi W=>by
  have eF:F i=qf qs[i]:=by rw[hF];show qf (qs[i]?.getD (0,0))=_;rw[List.getElem?_eq_getElem hi];rfl
  rw[eF,List.getElem?_eq_getElem hi]
  have hq:=hf qs[i] (List.getElem_mem hi)
  exact (zxt _ _ (qf qs[i]) W hq.1 hq.2.1 hq.2.2.1 hq.2.2.2 (qbi _ hq)).mono fun e w' ⟨zb,he,hb,hr,_⟩=>⟨zb,he,hr,hb⟩
 have HC:=af hcell
 have HV:=af hOF
 rw[← hL]
 obtain⟨n,hnn⟩:∃ n,n=qs.length:=⟨_,rfl⟩
 rw[← hnn] at hn hcap HC HV
 rw[← hnn]
 clear hcell hOF hc hf hF hL hnn
 go_enter func15,ntmps15
 go_wp2
 go_loopw [3,8] (fun o i wr=>∃ (k:Nat) (us:List Value),k≤n∧i=.int .i64 (k:Int)∧Hid (zez wr w.heap.size o ((List.range k).map F) us∧But [] w wr)) (fun _ i _=>n-(intOf i).toNat)
 case atStart=>exact⟨0,[],Nat.zero_le _,rfl,zez.empty _ _,But.refl _ _⟩
 case round =>(
 obtain⟨k,us,hk,rfl,HI⟩:=hrel
 rename World=>wr
 by_cases hlt:k<n
 ·(
 obtain⟨b,off,rfl,c0,c1⟩:=ae HC k hlt
 have c0':=(ae HI).2.ag c0 (by simp)
 have c1':=(ae HI).2.ag c1 (by simp)
 have PF:=af (ae HV k hlt)
 clear c0 c1
 generalize (qs[k]?.getD (0,0)).1=q1 at *
 generalize (qs[k]?.getD (0,0)).2=q2 at *
 have ba:=(But.refl [] wr).alloc (.cells #[.int .i64 q1,.int .i64 q2] 23)
 have BA:=af ba
 clear ba
 go_wp2_with fail
 refine (ae PF _).mono ?_
 rintro e w1 ⟨zb,rfl,hz,hb1⟩
 obtain⟨V,hV⟩:∃ V,V=w1.alloc (.cells #[.pointer (some ⟨zb,0,none⟩)] 37):=⟨_,rfl⟩
 have bV1:But [] w1 V:=by rw[hV];exact (But.refl _ _).alloc _
 have cc:V.cell? ⟨w1.heap.size,0,none⟩=some (.pointer (some ⟨zb,0,none⟩)):=by rw[hV];simp
 have bV:But [] wr V:=((ae BA).trans' hb1).trans' bV1
 have oV:=(ae HI).1.but bV
 have bwV:=(ae HI).2.trans' bV
 obtain⟨v',w',hr,ho,hB,-⟩:=zuv V w u3 _ us w.heap.size oV w1.heap.size _ (F k) cc ⟨zb,rfl,hz.but bV1⟩ (by simp;omega) bwV (Nat.le_refl _) bwV.size
 have BF:Hid (But [] w w'):=hB
 have HO:=af ho
 rw[hV] at hr
 have HR:=af hr
 clear hr ho hB oV bV bwV cc hV bV1 hz hb1
 go_wp2_with (at_builtin;refine jb rfl _ _ 42 42 rfl _ _ v' w' rfl rfl (ae HR) ?_)
 refine⟨⟨k+1,_,by omega,by go_num,by rw[List.range_succ,List.map_append];exact ae HO,ae BF⟩,by simp[intOf];omega⟩)
 ·(
 obtain rfl:k=n:=by omega
 obtain⟨a',c',e'⟩:=(ae HI).1.form
 subst e'
 go_wp2
 go_ret
 exact⟨_,us,rfl,(ae HI).1,(ae HI).2⟩)))
def zsr (w:World) (b:Nat) (f:Rat):Prop:=zi w b f∨(f=0∧wh w b)
theorem qfs (xb yb:Nat) (f g:Rat) (w:World) (hx:zsr w xb f) (hy:zi w yb g) (lf:qw f 2000000) (lg:qw g 2000000) :
   Calls prog 82 #[.pointer (some ⟨xb,0,none⟩),.pointer (some ⟨yb,0,none⟩)] w fun e w'=>∃ zb,e=.returned (.pointer (some ⟨zb,0,none⟩))∧zi w' zb (f+g)∧But [] w w':=by(
 rcases hx with h|⟨h0,h⟩
 ·exact zvw xb yb f g w h hy lf lg
 ·exact (zol xb yb f g w h0 h hy lf lg).mono fun e w' ⟨zb,he,hb,hr,_⟩=>⟨zb,he,hr,hb⟩)
theorem zoy {F:Nat→Rat} {c:Nat}:∀ n,(∀ i,i<n→qw (F i) c)→qw (sgR F n) (n*(c+1)+1)
 | 0,_=>by
  have:=qw.int (z:=0) (by decide)
  exact⟨by show (wd 4294967296 0).length≤_;rw[zh];simp,by show (wd 4294967296 1).length≤_;exact Nat.le_trans (aj (B:=4294967296) (by omega) 1 1 (by omega)) (by omega)⟩
 | n+1,h=>((zoy n (fun i hi=>h i (by omega))).add (h n (by omega))).mono (by rw[Nat.succ_mul];omega)
theorem qw.zbz {f:Rat} {m:Nat} (h:qw f m) (n:Nat):qw (f^n) (m*n+1):=by
 rw[← zke];exact zhp h n
theorem zmv (ab:Nat) (f:Rat) (n:Nat) (w:World) (ha:zi w ab f) (lf:qw f 1000) (hn:n≤200) :
   Calls prog 27 #[.pointer (some ⟨ab,0,none⟩),.int .i64 (n:Int)] w fun e w'=>∃ zb,e=.returned (.pointer (some ⟨zb,0,none⟩))∧zi w' zb (f^n)∧But [] w w':=by(
 have HA:=af ha
 have HL:=af lf
 have IN:=af (zkh 1 w (by omega) (by omega))
 rw[← zke]
 clear ha lf
 go_enter func27,ntmps27
 go_wp2_with fail
 refine (ae IN).mono ?_
 rintro e w1 ⟨ib,rfl,B1,I1⟩
 have K1:=af (And.intro B1 I1)
 clear B1 I1 IN
 go_wp2
 go_loopw [5,6] (fun p i wr=>∃ (k pb:Nat),k≤n∧i=.int .i64 (k:Int)∧p=.pointer (some ⟨pb,0,none⟩)∧Hid (But [] w wr∧zi wr pb (Go.Proofs.YtagmkkiagjmimaaGreatDoor.zbz f k))) (fun _ i _=>n-(intOf i).toNat)
 case atStart=>exact⟨0,ib,by omega,rfl,rfl,(ae K1).1,(ae K1).2⟩
 case round =>(
 obtain⟨k,pb,hk,rfl,rfl,HI⟩:=hrel
 rename World=>wr
 by_cases hlt:k<n
 ·(
 have MU:=af (zkg pb ab (Go.Proofs.YtagmkkiagjmimaaGreatDoor.zbz f k) f wr (ae HI).2 ((ae HA).but (ae HI).1) ((zhp (ae HL) k).mono (by omega)) ((ae HL).mono (by omega)))
 go_wp2_with fail
 refine (ae MU).mono ?_
 rintro e w2 ⟨zb,rfl,B2,R2,-⟩
 have K2:Hid (But [] w w2∧zi w2 zb (Go.Proofs.YtagmkkiagjmimaaGreatDoor.zbz f (k+1))):=⟨(ae HI).1.trans' B2,R2⟩
 clear B2 R2 MU
 go_wp2
 refine⟨⟨k+1,zb,by omega,by go_num,rfl,(ae K2).1,(ae K2).2⟩,?_⟩
 simp[intOf];omega)
 ·(
 have hke:k=n:=by omega
 subst hke
 go_wp2
 go_ret
 exact⟨pb,rfl,(ae HI).2,(ae HI).1⟩)))
theorem qit (v:Value) (r:Rat) (b:Nat) (w:World) (hv:am w v r) (hb:zi w b r) (lr:Len r 1000000) (htab:Lib.TabIs prog w "internal/strconv.uint64pow10" .u64 Lib.pow10Tab) :
   Calls prog 21 #[v,.nilIface,.pointer (some ⟨b,0,none⟩),.int .i64 0] w fun e w'=>e=.returned (.bool true)∧But [] w w':=by(
 obtain⟨t,ht⟩:∃ t,t=oz (decide (r.num<0)) r.num.natAbs r.den:=⟨_,rfl⟩
 have T1:=af (fun W (h:But [] w W)=>zdi v r W (hv.but h) (lr.mono (by omega)) (TabIs.but htab h) t ht)
 have T2:=af (fun W (h:But [] w W)=>zqp b r W (hb.but h) ((zef lr).mono (by omega)) t (ht.trans (qag r)))
 obtain⟨x,y,p,rfl,-⟩:=id hv.agg
 clear hv hb lr htab ht
 generalize decide (r.num<0)=s at *
 obtain⟨V,hV⟩:∃ V,V=w.alloc (.cells #[.bool s,.int .u64 x,.int .u64 y,.pointer p] 27):=⟨_,rfl⟩
 obtain⟨g,hg⟩:∃ g,g=w.heap.size:=⟨_,rfl⟩
 have c0:V.cell? ⟨g,0,none⟩=some (.bool s):=by rw[hV,hg];simp
 have c1:V.cell? ⟨g,1,none⟩=some (.int .u64 x):=by rw[hV,hg];simp
 have c2:V.cell? ⟨g,2,none⟩=some (.int .u64 y):=by rw[hV,hg];simp
 have c3:V.cell? ⟨g,3,none⟩=some (.pointer p):=by rw[hV,hg];simp
 have bV:But [] w V:=by rw[hV];exact (But.refl _ _).alloc _
 have BV:=af bV
 have HV:=af hV
 clear bV hV
 go_enter func21,ntmps21
 go_wp2_with fail
 rw[← ae HV]
 try rw[← hg]
 clear hg HV
 refine (ae T1 V (ae BV)).mono ?_
 rintro e w1 ⟨rfl,B1⟩
 have K1:=af ((ae BV).trans' B1)
 clear B1 c0 c1 c2 c3
 go_wp2_with fail
 refine (ae T2 w1 (ae K1)).mono ?_
 rintro e w2 ⟨rfl,B2⟩
 have K2:=af ((ae K1).trans' B2)
 clear B2
 go_wp2
 go_ret
 exact⟨rfl,ae K2⟩)
theorem qfy (n:Int) (v b:Value) (w:World) (hv:am w v 0) (h0:(n != 0)=true) (htab:Lib.TabIs prog w "internal/strconv.uint64pow10" .u64 Lib.pow10Tab) (hg:w.cell? ⟨0,0,none⟩=some (.iface 219 (.agg #[.pointer (some ⟨7,29,none⟩)]))) :
   Calls prog 21 #[v,.iface 33 (.int .i64 n),b,.int .i64 n] w fun e w'=>e=.returned (.bool true)∧But [] w w':=by(
 have TZ:=af (fun W (h:But [] w W)=>zdi v 0 W (hv.but h) zyy (TabIs.but htab h) ⟨#[48]⟩ qaf.symm)
 have TE:=af (fun W (h:But [] w W)=>zsz n W (h.ag hg (by simp)))
 obtain⟨x,y,p,rfl,-⟩:=id hv.agg
 clear htab hg hv
 generalize decide ((0:Rat).num<0)=s at *
 obtain⟨V,hV⟩:∃ V,V=w.alloc (.cells #[.bool s,.int .u64 x,.int .u64 y,.pointer p] 27):=⟨_,rfl⟩
 obtain⟨g,hg⟩:∃ g,g=w.heap.size:=⟨_,rfl⟩
 have c0:V.cell? ⟨g,0,none⟩=some (.bool s):=by rw[hV,hg];simp
 have c1:V.cell? ⟨g,1,none⟩=some (.int .u64 x):=by rw[hV,hg];simp
 have c2:V.cell? ⟨g,2,none⟩=some (.int .u64 y):=by rw[hV,hg];simp
 have c3:V.cell? ⟨g,3,none⟩=some (.pointer p):=by rw[hV,hg];simp
 have bV:But [] w V:=by rw[hV];exact (But.refl _ _).alloc _
 have BV:=af bV
 have HV:=af hV
 clear bV hV
 go_enter func21,ntmps21
 go_wp2_with fail
 rw[← ae HV]
 try rw[← hg]
 clear hg HV
 refine (ae TE V (ae BV)).mono ?_
 rintro e w2 ⟨rfl,B3⟩
 replace c0:=B3.ag c0 (by simp)
 replace c1:=B3.ag c1 (by simp)
 replace c2:=B3.ag c2 (by simp)
 replace c3:=B3.ag c3 (by simp)
 have B4:=af ((ae BV).trans' B3)
 clear B3
 go_wp2_with fail
 refine (ae TZ _ (ae B4)).mono ?_
 rintro e w3 ⟨rfl,B5⟩
 have B6:=af ((ae B4).trans' B5)
 clear B5
 go_wp2
 go_ret
 exact⟨rfl,ae B6⟩)
end Go.Proofs.YtagmkkiagjmimaaGreatDoor
