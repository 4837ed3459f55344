/- What the rows of the laws of package cla -/
import Derived.Shelf.Vars
import Derived.Test.YtpmjeclpkahkmaaGreatDoorVEKs
import Derived.Test.YtpmjeclpkahkmaaGreatDoorVK9g
namespace Go.Proofs.YtpmjeclpkahkmaaGreatDoor
open Go.Proofs.Tryz
open Go.ChangeShapes Go.WideShapes Go.ChangeAt Go.RowKit Go.Joins
set_option maxRecDepth 100000
set_option linter.unusedVariables false
theorem qfs {w:World} (h:w.ShapedOpen prog):∃ m,w.cell? ⟨5,0,none⟩=some (.int .i64 m):=by(
have hs:prog.globals.size=10:=by kernel_rfl
have hg : 5 < prog.globals.size:=by rw[hs];decide
have h0:((begin prog (fun _ _=>0) default).world.heap[5]?).bind Obj.row? = some (#[.int .i64 0],3):=by kernel_rfl
have hb:prog.buildable 3 = true:=by kernel_rfl
have hc:prog.cellTypes prog.depth 3 = some [3]:=by kernel_rfl
have hu:prog.underlying 3 = some (.int .i64):=by kernel_rfl
exact cell_of_shapedOpen_int h hg h0 rfl hb hc hu)
theorem zok {H:Type} {enc:TypeId × Value→H} {C:Checked} (own:ownKnob C.prog.godebug=none) {os:Os} {f:FuncId} {fn:Func} {s:ChangeSpec} {X:World→Array Value→Prop} (hX:∀ (w w':World) (args:Array Value),w.heap=w'.heap→X w args→X w' args) (started:os.Started) (noInit:C.prog.inits.idxOf? f=none) (hfn:C.prog.funcs[f]? = some fn)
  (wit:∃ (w:World) (tape:Tape) (i:Input),w.os=os∧(w.forCall tape i).Shaped C.prog∧i.vars=[]∧Input.okWide C.prog (w.forCall tape i) .any w.heap.size f i∧((s.pre enc C.prog fn [] false (w.forCall tape i).memory i.args∧X (w.forCall tape i).memory i.args)∧sizedMet enc C.prog fn (OpenSpec.ofChange s) false (w.forCall tape i).memory i.args)∧Assume.holds {} C.prog (lone (Frame.enter C.prog f i.args .normal) [] (w.forCall tape i)))
  (body:∀ (W:World) (base:Nat) (args:Array Value) (ds gs:List (DataW H)) (before:List MemPlace),(∀ (j:Nat) t v,fn.params[j]? = some t→args[j]? = some v→Value.okWide C.prog W .any base t v)→DataW.Whole enc C.prog fn.params.toList s.vars false W args.toList ds gs before→X W args→W.ShapedOpen C.prog →
   Calls C.prog f args W fun e W'=>∃ v,e=.returned v∧s.post enc C.prog fn false true false false W args v W') :
  ReturnsInHanded {} C os f .any (fun w args=>(s.pre enc C.prog fn [] false w args∧X w args)∧sizedMet enc C.prog fn (OpenSpec.ofChange s) false w args) (s.post enc C.prog fn false true false false) :=
 returnsInHanded_of_calls own started noInit wit fun w tape i _ hsh _ hok hpre _=>by
  obtain⟨-,-,-,fn',hfn',-,-,-,-,hval⟩:=hok
  obtain rfl:fn'=fn:=Option.some.inj (hfn'.symm.trans hfn)
  obtain⟨⟨⟨ds,gs,before,hw,-⟩,hx⟩,-⟩:=hpre
  exact (body _ w.heap.size i.args ds gs before hval (DataW.Whole.of_heap (w':=w.forCall tape i) (by rfl) hw) (hX _ _ _ (by rfl) hx) hsh).mono fun e W' ⟨v,he,hp⟩=>by
   subst he
   exact ChangeSpec.post_blind hp
def cv (f g:Nat→Rat):Nat→Rat
 | 0=>f 0*g 0
 | n+1=>f 0*g (n+1)+cv (fun k=>f (k+1)) g n
def un:Nat→Rat:=fun n=>if n=0 then 1 else 0
def pw (b:Nat→Rat):Nat→Nat→Rat
 | 0=>un
 | m+1=>cv b (pw b m)
def us (f:Nat→Rat):Nat→Rat
 | 0=>0
 | k+1=>us f k+f k
theorem l9 {f g:Nat→Rat}:∀ n,(∀ k,k<n→f k=g k)→us f n=us g n
 | 0,_=>rfl
 | n+1,h=>by
  show us f n+f n=us g n+g n
  rw[l9 n (fun k hk=>h k (by omega)),h n (by omega)]
theorem qct (f g:Nat→Rat):∀ n,us (fun k=>f k+g k) n=us f n+us g n
 | 0=>by show (0:Rat)=0+0;grind
 | n+1=>by
  show us _ n+(f n+g n)=us f n+f n+(us g n+g n)
  rw[qct f g n];grind
theorem zvm (c:Rat) (f:Nat→Rat):∀ n,us (fun k=>c*f k) n=c*us f n
 | 0=>by show (0:Rat)=c*0;grind
 | n+1=>by
  show us _ n+c*f n=c*(us f n+f n)
  rw[zvm c f n];grind
theorem zqp:∀ n,us (fun _=>0) n=0
 | 0=>rfl
 | n+1=>by
  show us (fun _=>0) n+0=0
  rw[zqp n];grind
theorem zmh (f:Nat→Rat):∀ n,us f (n+1)=f 0+us (fun k=>f (k+1)) n
 | 0=>by show (0:Rat)+f 0=f 0+0;grind
 | n+1=>by
  show us f (n+1)+f (n+1)=f 0+(us (fun k=>f (k+1)) n+f (n+1))
  rw[zmh f n];grind
theorem zhp (f:Nat→Rat) (n:Nat):∀ t,(∀ k,n≤k→f k=0)→us f (n+t)=us f n
 | 0,_=>rfl
 | t+1,h=>by
  show us f (n+t)+f (n+t)=us f n
  rw[zhp f n t h,h (n+t) (by omega)];grind
theorem zbr (f g:Nat→Rat):∀ n,cv f g n=us (fun k=>f k*g (n-k)) (n+1):=by(
intro n
induction n generalizing f with
| zero=>show f 0*g 0=0+f 0*g (0-0);grind
| succ n ih =>
 rw[zmh]
 show f 0*g (n+1)+cv (fun k=>f (k+1)) g n=f 0*g (n+1-0)+_
 rw[ih]
 congr 1
 refine l9 _ (fun k _=>?_)
 rw[show n+1-(k+1)=n-k from by omega])
theorem zzb (f f' g:Nat→Rat):cv (fun k=>f k+f' k) g=fun n=>cv f g n+cv f' g n:=by(
funext n
rw[zbr,zbr,zbr,← qct]
refine l9 _ (fun k _=>?_)
grind)
theorem zma (c:Rat) (f g:Nat→Rat):cv (fun k=>c*f k) g=fun n=>c*cv f g n:=by(
funext n
rw[zbr,zbr,← zvm]
refine l9 _ (fun k _=>?_)
grind)
theorem zza (c:Rat) (f g:Nat→Rat):cv f (fun k=>c*g k)=fun n=>c*cv f g n:=by(
funext n
rw[zbr,zbr,← zvm]
refine l9 _ (fun k _=>?_)
grind)
theorem zuu (g:Nat→Rat):cv (fun _=>0) g=fun _=>0:=by(
funext n
rw[zbr]
refine (l9 _ (fun k _=>?_)).trans (zqp (n+1))
grind)
theorem qjf (f g:Nat→Rat):∀ n,cv f g (n+1)=cv f (fun k=>g (k+1)) n+f (n+1)*g 0:=by(
intro n
rw[zbr,zbr]
show us (fun k=>f k*g (n+1-k)) (n+1)+f (n+1)*g (n+1-(n+1))=_
rw[Nat.sub_self]
congr 1
refine l9 _ (fun k hk=>?_)
rw[show n+1-k=n-k+1 from by omega])
theorem zjb (f g:Nat→Rat):cv f g=cv g f:=by(
funext n
induction n generalizing f g with
| zero=>show f 0*g 0=g 0*f 0;grind
| succ n ih =>
 rw[qjf]
 show _=g 0*f (n+1)+cv (fun k=>g (k+1)) f n
 rw[ih f];grind)
theorem zuv (f g e:Nat→Rat):cv (cv f g) e=cv f (cv g e):=by(
funext n
induction n generalizing f with
| zero=>show f 0*g 0*e 0=f 0*(g 0*e 0);grind
| succ n ih =>
 show f 0*g 0*e (n+1)+cv (fun k=>f 0*g (k+1)+cv (fun j=>f (j+1)) g k) e n=f 0*(g 0*e (n+1)+cv (fun k=>g (k+1)) e n)+cv (fun k=>f (k+1)) (cv g e) n
 rw[zzb (fun k=>f 0*g (k+1)) (cv (fun j=>f (j+1)) g),zma (f 0) (fun k=>g (k+1))]
 show _+(f 0*cv (fun k=>g (k+1)) e n+cv (cv (fun j=>f (j+1)) g) e n)=_
 rw[ih];grind)
theorem qgq (g:Nat→Rat):cv un g=g:=by(
funext n
cases n with
| zero=>show (1:Rat)*g 0=g 0;grind
| succ n =>
 show (1:Rat)*g (n+1)+cv (fun k=>un (k+1)) g n=g (n+1)
 rw[show (fun k=>un (k+1))=(fun _=>(0:Rat)) from by funext k;simp[un],zuu];grind)
theorem qgr (f g:Nat→Rat) (p q n:Nat) (hf:∀ k,p<k→f k=0) (hg:∀ k,q<k→g k=0) (hn:p+q<n):cv f g n=0:=by(
rw[zbr]
refine (l9 _ (fun k _=>?_)).trans (zqp (n+1))
rcases Nat.lt_or_ge p k with h | h
·rw[hf k h];grind
·rw[hg (n-k) (by omega)];grind)
def lf (l:List Rat):Nat→Rat:=fun i=>l[i]?.getD 0
theorem ru (l:List Rat) (i:Nat) (h:l.length≤i):lf l i=0:=by
 unfold lf;rw[List.getElem?_eq_none h];rfl
theorem zfw (F:Nat→Rat) (n i:Nat) (h:i<n):lf ((List.range n).map F) i=F i:=by
 unfold lf;rw[List.getElem?_map,List.getElem?_range h];rfl
theorem zuw (F:Nat→Rat) (x:Rat) (bs:List Rat) (i:Nat):∀ k,k≤bs.length→∀ t,zgb F x bs i k t=F t+(if i≤t∧t<i+k then x*lf bs (t-i) else 0)
 | 0,_,t=>by
  show F t=_
  rw[if_neg (by omega)];grind
 | k+1,hk,t=>by
  have ih:=zuw F x bs i k (by omega)
  show zda _ _ _ t=_
  unfold zda
  by_cases e:t=i+k
  ·rw[if_pos e,ih,if_neg (by omega),if_pos (by omega),e,show i+k-i=k from by omega]
   unfold lf;grind
  ·rw[if_neg e,ih]
   by_cases h2:i≤t∧t<i+k
   ·rw[if_pos h2,if_pos (by omega)]
   ·rw[if_neg h2,if_neg (by omega)]
theorem zux (xs bs:List Rat):∀ i t,yg xs bs i t=us (fun k=>if k≤t then lf xs k*lf bs (t-k) else 0) i
 | 0,_=>rfl
 | i+1,t=>by
  have ih:=zux xs bs i t
  show (if (xs[i]?.getD 0).num=0 then yg xs bs i else zgb (yg xs bs i) (xs[i]?.getD 0) bs i bs.length) t=us _ i+(if i≤t then lf xs i*lf bs (t-i) else 0)
  split
  ·rename_i h0
   have:lf xs i=0:=Rat.num_eq_zero.1 h0
   rw[ih,this]
   split <;> grind
  ·rw[zuw _ _ _ _ _ (Nat.le_refl _),ih]
   congr 1
   by_cases h:i≤t
   ·rw[if_pos h]
    by_cases h2:t<i+bs.length
    ·rw[if_pos ⟨h,h2⟩];rfl
    ·rw[if_neg (fun q=>h2 q.2),ru bs _ (by omega)];grind
   ·rw[if_neg h,if_neg (fun q=>h q.1)]
theorem zct (xs bs:List Rat) (t:Nat):yg xs bs xs.length t=cv (lf xs) (lf bs) t:=by(
rw[zux,zbr]
have e1:us (fun k=>if k≤t then lf xs k*lf bs (t-k) else 0) (xs.length+(t+1))=us (fun k=>if k≤t then lf xs k*lf bs (t-k) else 0) xs.length :=
 zhp _ _ _ (fun k hk=>by rw[ru xs k hk];split <;> grind)
have e2:us (fun k=>if k≤t then lf xs k*lf bs (t-k) else 0) (t+1+xs.length)=us (fun k=>if k≤t then lf xs k*lf bs (t-k) else 0) (t+1) :=
 zhp _ _ _ (fun k hk=>by rw[if_neg (by omega)])
rw[← e1,Nat.add_comm,e2]
exact l9 _ (fun k hk=>by rw[if_pos (by omega)]))
def hor (no s:Nat→Rat) (last:Nat):Nat→Nat→Rat
 | 0=>fun i=>no last*un i
 | t+1=>fun i=>cv (hor no s last t) s i+no (last-(t+1))*un i
theorem qgf (no s:Nat→Rat) (last:Nat):∀ t,t≤last→∀ i,hor no s last t i=us (fun k=>no (last-t+k)*pw s k i) (t+1)
 | 0,_,i=>by
  show no last*un i=0+no (last-0+0)*un i
  rw[show last-0+0=last from rfl];grind
 | t+1,h,i=>by
  have ih:=qgf no s last t (by omega)
  have ih':hor no s last t=fun i=>us (fun k=>no (last-t+k)*pw s k i) (t+1):=by funext i;exact ih i
  have e2:∀ M,cv (fun i=>us (fun k=>no (last-t+k)*pw s k i) M) s i=us (fun k=>no (last-t+k)*pw s (k+1) i) M:=by
   intro M
   induction M with
   | zero=>exact congrFun (zuu s) i
   | succ M ihM =>
    show cv (fun i=>us _ M+no (last-t+M)*pw s M i) s i=us _ M+_
    rw[zzb (fun i=>us (fun k=>no (last-t+k)*pw s k i) M) (fun i=>no (last-t+M)*pw s M i),zma]
    show _+_*cv (pw s M) s i=_
    rw[ihM,zjb];rfl
  show cv (hor no s last t) s i+no (last-(t+1))*un i=_
  rw[ih',e2,zmh (fun k=>no (last-(t+1)+k)*pw s k i) (t+1),Nat.add_zero]
  have e3:us (fun k=>no (last-(t+1)+(k+1))*pw s (k+1) i) (t+1)=us (fun k=>no (last-t+k)*pw s (k+1) i) (t+1) :=
   l9 _ (fun k _=>by rw[show last-(t+1)+(k+1)=last-t+k from by omega])
  rw[e3]
  show _+no (last-(t+1))*un i=no (last-(t+1))*un i+_
  grind
theorem zee (ns ss:List Rat) (u:Rat) (q:Nat) (hs:ss.length=q+1):∀ t,(bi ns ss u t).length=t*q+1
 | 0=>by show 1=_;omega
 | t+1=>by
  have ih:=zee ns ss u q hs t
  simp only[bi,List.length_map,List.length_range]
  rw[ih,hs,Nat.succ_mul];omega
theorem zki (no s:Nat→Rat) (ns ss:List Rat) (uN uS:Rat) (last q:Nat) (hn:ns.length=last+1) (hs:ss.length=q+1) (en:∀ i,i≤last→lf ns i=uN*no i) (es:∀ i,lf ss i=uS*s i) :
  ∀ t,t≤last→∀ i,lf (bi ns ss uS t) i=uN*qy uS t*hor no s last t i
 | 0,_,i=>by
  show lf [ns[ns.length-1]?.getD 0] i=uN*1*(no last*un i)
  have e:=en last (Nat.le_refl _)
  unfold lf at e
  rw[hn,Nat.add_sub_cancel,e]
  unfold lf un
  cases i with
  | zero=>show uN*no last=_;rw[if_pos rfl];grind
  | succ i=>show (0:Rat)=_;rw[if_neg (by omega)];grind
 | t+1,ht,i=>by
  have ih:=zki no s ns ss uN uS last q hn hs en es t (by omega)
  have len:=zee ns ss uS q hs
  have hs0:∀ k,q<k→uS*s k=0:=fun k hk=>by rw[← es,ru ss k (by omega)]
  have ecv:cv (lf (bi ns ss uS t)) (lf ss)=fun i=>uN*qy uS t*(uS*cv (hor no s last t) s i):=by
   rw[show lf (bi ns ss uS t)=fun i=>uN*qy uS t*hor no s last t i from by funext i;exact ih i,show lf ss=fun i=>uS*s i from by funext i;exact es i,zma,zza]
  have hg:∀ i,zda (yg (bi ns ss uS t) ss (bi ns ss uS t).length) 0 (yg (bi ns ss uS t) ss (bi ns ss uS t).length 0+ns[ns.length-1-(t+1)]?.getD 0*qy uS (t+1)) i=uN*qy uS (t+1)*hor no s last (t+1) i:=by
   intro i
   have e:=en (last-(t+1)) (by omega)
   unfold lf at e
   unfold zda
   rw[hn,Nat.add_sub_cancel,e,zct,zct,ecv]
   show (if i=0 then uN*qy uS t*(uS*cv (hor no s last t) s 0)+uN*no (last-(t+1))*(qy uS t*uS) else uN*qy uS t*(uS*cv (hor no s last t) s i))=uN*(qy uS t*uS)*(cv (hor no s last t) s i+no (last-(t+1))*un i)
   unfold un
   split
   ·rename_i h;subst h;grind
   ·grind
  by_cases hi:i<(bi ns ss uS (t+1)).length
  ·have hi':=hi
   rw[len] at hi'
   show lf ((List.range _).map _) i=_
   rw[zfw _ _ _ (by have:=len t;rw[Nat.succ_mul] at hi';omega)]
   exact hg i
  ·rw[ru _ _ (Nat.le_of_not_lt hi)]
   rw[len] at hi
   rw[← hg i]
   unfold zda
   rw[if_neg (by omega),zct]
   refine (qgr _ _ (t*q) q i (fun k hk=>ru _ _ (by rw[len];omega)) (fun k hk=>ru _ _ (by omega)) (by rw[Nat.succ_mul] at hi;omega)).symm
end Go.Proofs.YtpmjeclpkahkmaaGreatDoor
