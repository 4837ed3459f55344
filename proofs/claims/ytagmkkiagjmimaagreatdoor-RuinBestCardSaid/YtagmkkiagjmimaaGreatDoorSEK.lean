/- What the rows of the laws of package cla -/
import Derived.Shelf.Vars
import Derived.Test.YtagmkkiagjmimaaGreatDoorProg
import Derived.RangeFuncNested
import Derived.RangeFuncBound
import Derived.RangeFuncCalls
import Derived.RangeFuncLeaves
import Derived.Shelf.Abstract
import Derived.Shelf.RegionOpen
import Derived.WalkKit
import Derived.OwnWalkIn
import Derived.TacticsInMore
import Derived.LoopNIn
import Derived.LoopIn
import Derived.Test.YtagmkkiagjmimaaGreatDoorSN40
import Derived.Test.YtagmkkiagjmimaaGreatDoorSPK
namespace Go.Proofs.YtagmkkiagjmimaaGreatDoor
open Go.Proofs.Tryz
open Go.ChangeShapes Go.WideShapes Go.ChangeAt Go.RowKit Go.Joins
set_option maxHeartbeats 16000000
set_option maxRecDepth 100000
set_option linter.unusedVariables false
theorem qcs {w:World} (h:w.ShapedOpen prog):∃ m,w.cell? ⟨4,0,none⟩=some (.int .i64 m):=by(
 have hs:prog.globals.size=7:=by kernel_rfl
 have hg : 4 < prog.globals.size:=by rw[hs];decide
 have h0:((begin prog (fun _ _=>0) default).world.heap[4]?).bind Obj.row? = some (#[.int .i64 0],3):=by kernel_rfl
 have hb:prog.buildable 3 = true:=by kernel_rfl
 have hc:prog.cellTypes prog.depth 3 = some [3]:=by kernel_rfl
 have hu:prog.underlying 3 = some (.int .i64):=by kernel_rfl
 exact cell_of_shapedOpen_int h hg h0 rfl hb hc hu)
theorem zlw {H:Type} {enc:TypeId × Value→H} {C:Checked} (own:ownKnob C.prog.godebug=none) {os:Os} {f:FuncId} {fn:Func} {s:ChangeSpec} {X:World→Array Value→Prop} (hX:∀ (w w':World) (args:Array Value),w.heap=w'.heap→X w args→X w' args) (started:os.Started) (noInit:C.prog.inits.idxOf? f=none) (hfn:C.prog.funcs[f]? = some fn)
  (wit:∃ (w:World) (tape:Tape) (i:Input),w.os=os∧(w.forCall tape i).Shaped C.prog∧i.vars=[]∧Input.okWide C.prog (w.forCall tape i) .any w.heap.size f i∧((s.pre enc C.prog fn [] false (w.forCall tape i).memory i.args∧X (w.forCall tape i).memory i.args)∧sizedMet enc C.prog fn (OpenSpec.ofChange s) false (w.forCall tape i).memory i.args)∧Assume.holds {} C.prog (lone (Frame.enter C.prog f i.args .normal) [] (w.forCall tape i)))
  (body:∀ (W:World) (base:Nat) (args:Array Value) (ds gs:List (DataW H)) (before:List MemPlace),(∀ (j:Nat) t v,fn.params[j]? = some t→args[j]? = some v→Value.okWide C.prog W .any base t v)→DataW.Whole enc C.prog fn.params.toList s.vars false W args.toList ds gs before→X W args→W.ShapedOpen C.prog →
   Calls C.prog f args W fun e W'=>∃ v,e=.returned v∧s.post enc C.prog fn false true false false W args v W') :
  ReturnsInHanded {} C os f .any (fun w args=>(s.pre enc C.prog fn [] false w args∧X w args)∧sizedMet enc C.prog fn (OpenSpec.ofChange s) false w args) (s.post enc C.prog fn false true false false) :=
 returnsInHanded_of_calls own started noInit wit fun w tape i _ hsh _ hok hpre _=>by
  obtain⟨-,-,-,fn',hfn',-,-,-,-,hval⟩:=hok
  obtain rfl:fn'=fn:=Option.some.inj (hfn'.symm.trans hfn)
  obtain⟨⟨⟨ds,gs,before,hw,-⟩,hx⟩,-⟩:=hpre
  exact (body _ w.heap.size i.args ds gs before hval (DataW.Whole.of_heap (w':=w.forCall tape i) (by rfl) hw) (hX _ _ _ (by rfl) hx) hsh).mono fun e W' ⟨v,he,hp⟩=>by
   subst he
   exact ChangeSpec.post_blind hp
open Go.RowKit
theorem zgj (n:Nat) (h:1≤n):Len 0 n:=⟨Nat.le_trans (aj (by omega) _ 1 (by decide)) h,Nat.le_trans (aj (by omega) _ 1 (by decide)) h⟩
def atR (fs:List Rat) (k:Nat):Rat:=fs[k]?.getD 0
theorem qdr (x y:Rat) (r:Int) (hr:r=zbg (x.num*(y.den:Int)) (y.num*(x.den:Int))):(r != 0)=!decide (x=y):=by(
 have h1:r=0↔x=y:=by
  have hle:x.num*(y.den:Int)=y.num*(x.den:Int)↔x=y:=by
   constructor
   ·intro h
    exact Rat.le_antisymm ((Rat.le_iff _ _).2 (by omega)) ((Rat.le_iff _ _).2 (by omega))
   ·intro h
    rw[h]
  rw[← hle,hr]
  unfold zbg
  constructor
  ·intro h
   split at h
   ·omega
   ·split at h
    ·assumption
    ·omega
  ·intro h
   rw[if_neg (by omega),if_pos h]
 by_cases h:x=y
 ·rw[h1.2 h,decide_eq_true h];rfl
 ·rw[decide_eq_false h]
  have h2:r≠0:=fun e=>h (h1.1 e)
  simpa using h2)
def exF (fs:List Rat) (inc U:Nat) (i:Nat):Rat:=(if i<fs.length then fs[i]?.getD 0*(((U:Nat):Int):Rat) else 0)-(if i=inc then (((U:Nat):Int):Rat) else 0)
theorem zun (v:Value) (fs:List Rat) (inc:Nat) (w:World) (m:Int) (c:Nat) (hv:aq w v fs) (hl:fs.length≤1000) (hi:inc≤20) (lf:∀ f ∈ fs,Len f c) (hc:c≤100) (htab:Lib.TabIs prog w "internal/strconv.uint64pow10" .u64 Lib.pow10Tab) (hm:w.cell? ⟨4,0,none⟩=some (.int .i64 m)) :
   Calls prog 88 #[.int .i64 (inc:Int),v] w fun e w'=>∃ g,e=.returned (.slice (some ⟨g,0,none⟩) (max fs.length (inc+1)) (max fs.length (inc+1)))∧pq w' g (max fs.length (inc+1)) (exF fs inc (yg 1 fs))∧w.heap.size≤g∧g<w'.heap.size∧But [] w w':=by(
 have hfc:fs.length*c≤1000*100:=Nat.mul_le_mul hl hc
 obtain⟨U,hUU⟩:∃ U,U=yg 1 fs:=⟨_,rfl⟩
 have lU:Len (((U:Nat):Int):Rat) 200000:=by
  rw[hUU]
  refine zal _ _ (Nat.le_refl _) (Nat.le_trans (zgu c fs 1 lf) ?_) (by omega)
  have h1:(wd 18446744073709551616 1).length≤1:=aj (by omega) _ 1 (by omega)
  omega
 have CO:=af (fun W v' (h:But [] w W) (hv':zha W v' [fs])=>zus v' [fs] W m c hv' (by simp) (fun l hl'=>by simp at hl';rw[hl'];omega) (fun l hl'=>by simp at hl';rw[hl'];exact lf) (by simp;omega) (by omega) (TabIs.but htab h) (h.ag hm (by simp)))
 have TI:=af (fun W vu (h:But [] w W) (hu:am W vu (((U:Nat):Int):Rat))=>zxf v vu fs _ W (hv.but h) hu (by omega) (fun f hf=>(lf f hf).mono (by omega)) (lU.mono (by omega)))
 have LF:Hid (∀ i,i<fs.length→Len (fs[i]?.getD 0) c):=fun i h=>by rw[List.getElem?_eq_getElem h];exact lf _ (List.getElem_mem h)
 simp only[List.flatten_cons,List.flatten_nil,List.append_nil,← hUU] at CO
 rw[← hUU]
 have HV:=af hv
 have HLU:=af lU
 obtain⟨q,cap,rfl,hcap,-⟩:=id hv
 obtain⟨n,hN⟩:∃ n,n=fs.length:=⟨_,rfl⟩
 rw[← hN] at TI HV LF hl ⊢
 have HN:=af hN
 obtain⟨z,hz⟩:∃ z,z=max n (inc+1):=⟨_,rfl⟩
 rw[← hz]
 have hz1:n≤z:=by omega
 have hz2:inc<z:=by omega
 have hz3:z≤1021:=by omega
 have hmax:(max (n:Int) ((inc:Int)+1))=(z:Int):=by omega
 have hmk:=fun wx=>zmu wx z (by omega)
 clear hv lU hUU htab hm hN hcap hfc lf hz
 go_enter func88,ntmps88
 go_wp2_with fail
 have bL:But [] w (w.alloc (.cells #[.slice q n cap] 46)):=(But.refl _ _).alloc _
 have hL:zha (w.alloc (.cells #[.slice q n cap] 46)) (.slice (some ⟨w.heap.size,0,none⟩) 1 1) [fs]:=by
  refine⟨some ⟨w.heap.size,0,none⟩,1,rfl,Nat.le_refl _,fun i l hil=>?_⟩
  obtain rfl:i=0:=by
   have:=(List.getElem?_eq_some_iff.1 hil).1
   simpa using this
  obtain rfl:fs=l:=by simpa using hil
  exact⟨_,_,.slice q n cap,rfl,by simp,(ae HV).but bL⟩
 refine (ae CO _ _ bL hL).mono ?_
 rintro e w1 ⟨v1,rfl,hf1,hb1⟩
 have B1:=af (bL.trans' hb1)
 obtain⟨x1,y1,p1,rfl,-⟩:=id hf1.agg
 generalize hs1:decide ((((U:Nat):Int):Rat).num<0)=s1 at *
 have HF1:=af hf1
 clear hb1 hf1 hs1 hL bL CO
 go_wp2_with fail
 obtain⟨A,hA⟩:∃ A,A=w1.alloc (.cells #[.bool s1,.int .u64 x1,.int .u64 y1,.pointer p1] 27):=⟨_,rfl⟩
 obtain⟨V,hV⟩:∃ V,V=A.alloc (.cells (madeCells #[.bool false,.int .u64 0,.int .u64 0,.pointer none] (z*4)) 27):=⟨_,rfl⟩
 have sA:A.heap.size=w1.heap.size+1:=by rw[hA];simp
 have bA:But [] w1 A:=by rw[hA];exact (But.refl _ _).alloc _
 have bV:But [] A V:=by rw[hV];exact (But.refl _ _).alloc _
 have xU:az V w1.heap.size (((U:Nat):Int):Rat):=by
  have h1:=(az.new w1 s1 x1 y1 p1 _ 27 (ae HF1))
  rw[← hA] at h1
  exact h1.but bV
 have rD:pq V (w1.heap.size+1) z (fun _=>0):=by
  rw[← sA,hV]
  exact pq.made A z
 have sV:w1.heap.size+1<V.heap.size:=by rw[hV,← sA];simp
 rw[← hA,← hV]
 have hww:w.heap.size≤w1.heap.size:=(ae B1).size
 have B2:=af ((ae B1).trans' (bA.trans' bV))
 have F2:=af (((ae HF1).but bA).but bV)
 have XU:=af xU
 have RD:=af rD
 clear hA hV sA bA bV xU rD B1 HF1
 generalize hg5:w1.heap.size=g5 at *
 clear hg5
 refine (ae TI _ _ (ae B2) (ae F2)).mono ?_
 rintro e w3 ⟨g,rfl,hr,hg1,hg2,hb3⟩
 have hne:g≠g5+1:=by omega
 obtain⟨w4,hcp,hrow,hb4⟩:=qdp w3 g (g5+1) n z (fun i=>fs[i]?.getD 0*(((U:Nat):Int):Rat)) hr ((ae RD).but hb3 sV) hz1 (by omega) hne 3
 have cb:=((ae RD).but hb3 sV).bool (show 0<z by omega)
 have XU4:=af (((ae XU).but hb3).beside hb4 (by simp) (fun t ht=>by simp at ht;subst ht;exact cb))
 have B4:=af (((ae B2).trans' hb3).trans hb4 (fun t ht=>by simp at ht;subst ht;exact .inr (by omega)))
 have s4:Hid (g5+1<w4.heap.size):=Nat.lt_of_lt_of_le (Nat.lt_of_lt_of_le sV hb3.size) hb4.size
 have HR:=af hrow
 clear hr hg1 hg2 hb3 hb4 hrow cb RD XU B2 F2 TI sV
 go_wp2_with fail
 clear hcp hmk hmax
 obtain⟨t1,a1,b1,q1,c1,f1⟩:=(ae HR).told inc hz2
 obtain⟨⟨t2,a2,b2,q2,c2,f2⟩,-⟩:=id (ae XU4)
 have lr:Len (if inc<n then fs[inc]?.getD 0*(((U:Nat):Int):Rat) else 0) 200200:=by
  by_cases h:inc<n
  ·rw[if_pos h];exact zdf (ae LF inc h) (ae HLU) _ (by omega)
  ·rw[if_neg h];exact zgj _ (by omega)
 refine zla 4 _ _ w4 (g5+1) (inc*4) 0 z z inc t1 a1 b1 q1 t2 a2 b2 q2 _ _ g5 (by simp) c1 (fun j=>(ae HR).loose j) (by simp[Act.eval]) (by simp[Act.eval]) (by simp[Act.eval]) (by omega) hz2 (by omega) c1 c2 (fun w' hb=>zsb _ _ _ _ w' (f1.but hb) (f2.but hb) (lr.mono (by omega)) ((ae HLU).mono (by omega))) ?_
 intro w5 s' x' y' p' hb5 hf5
 simp only[bi,List.foldl_cons,List.foldl_nil,Act.put,List.setIfInBounds_toArray,List.set_cons_zero,List.set_cons_succ]
 have r5:=((ae HR).but hb5 (ae s4)).set hz2 s' x' y' p' _ hf5
 have b5:=bk w5 (g5+1) [.bool s',.int .u64 x',.int .u64 y',.pointer p'] (inc*4)
 have B5:=af (((ae B4).trans' hb5).trans b5 (fun t ht=>by simp at ht;subst ht;exact .inr (by omega)))
 have s5:Hid (g5+1<(w5.setCells (g5+1) (inc*4) [.bool s',.int .u64 x',.int .u64 y',.pointer p']).heap.size):=Nat.lt_of_lt_of_le (Nat.lt_of_lt_of_le (ae s4) hb5.size) b5.size
 have R5:=af r5
 clear r5 b5 hb5 hf5 HR XU4 c1 c2 f1 f2
 generalize w5.setCells (g5+1) (inc*4) [.bool s',.int .u64 x',.int .u64 y',.pointer p']=F at *
 go_wp2
 go_ret
 refine⟨g5+1,rfl,?_,by omega,ae s5,ae B5⟩
 have e:exF fs inc U=qfi (fun i=>if i<n then fs[i]?.getD 0*(((U:Nat):Int):Rat) else 0) inc ((if inc<n then fs[inc]?.getD 0*(((U:Nat):Int):Rat) else 0)-(((U:Nat):Int):Rat)):=by
  funext i
  unfold exF qfi
  rw[← ae HN]
  by_cases h:i=inc
  ·subst h;rw[if_pos rfl,if_pos rfl]
  ·rw[if_neg h,if_neg h];grind
 rw[e]
 exact ae R5)
open Go.RowKit Go.Shelf
attribute [local go_sem] Oper.semAt_some
def iw (len k:Nat):List (Fin len):=((List.finRange len).drop k).reverse
theorem zlb (len:Nat):iw len len=[]:=by unfold iw;rw[List.drop_eq_nil_of_le (by simp)];rfl
theorem ziu (len k:Nat) (h:k<len):iw len k=iw len (k+1)++[⟨k,h⟩]:=by(
 unfold iw
 rw[List.drop_eq_getElem_cons (by simpa using h),List.reverse_cons]
 simp)
theorem zml (len k:Nat):(iw len k).length=len-k:=by unfold iw;simp
def zab (n₀:Nat) (gs:List Nat) (A B:World):Prop:=∀ k,k<n₀→k ∉ gs→B.heap[k]? = A.heap[k]?
theorem zab.refl (n₀:Nat) (gs:List Nat) (A:World):zab n₀ gs A A:=fun _ _ _=>rfl
theorem zab.trans {n₀:Nat} {gs:List Nat} {A B C:World} (h:zab n₀ gs A B) (k:zab n₀ gs B C):zab n₀ gs A C:=fun i h1 h2=>(k i h1 h2).trans (h i h1 h2)
theorem zab.cell {n₀:Nat} {gs:List Nat} {A B:World} (h:zab n₀ gs A B) {p:Addr} (hp:p.block<n₀) (hn:p.block ∉ gs):B.cell? p=A.cell? p:=World.cell?_of_block (w:=A) (h p.block hp hn)
theorem zab.put {n₀:Nat} {gs:List Nat} (W:World) (l:Nat) (o:Obj) (hl:n₀≤l):zab n₀ gs W (W.putObj l o):=fun k hk _=>World.putObj_heap_other (by omega)
theorem qaa (F:Fence) (n:Nat) (hf:F.fn 205) (hro:F.round=none) (hn:1≤n) (l Bs n₀:Nat) (gs:List Nat) (b off len cap:Nat) (S:Nat→Bool) (X Y:Nat→Int) (Q:Nat→Option Addr) (hreach:len≤1000000) (hb:b<n₀) (hbg:b ∉ gs) (J Jx:List (Fin len)→World→Prop)
   (hY:∀ pre (x:Fin len) W,J pre W→pre.length<len→YieldAt F (n-1) prog l #[.int .i64 ((x.1:Nat):Int),.agg #[.bool (S x.1),.int .u64 (X x.1),.int .u64 (Y x.1),.pointer (Q x.1)]] W fun e W' =>
    (e=.returned (.bool true)∧J (pre++[x]) W'∧zab n₀ gs W W')∨(e=.returned (.bool false)∧Jx (pre++[x]) W'))
   (W:World) (hBs:W.cell? ⟨Bs,0,none⟩=some (.slice (some ⟨b,off,none⟩) len cap)) (hBn:Bs<n₀) (hBg:Bs ∉ gs)
   (hc:∀ j,j<len→W.cell? ⟨b,off+j*4,none⟩=some (.bool (S j))∧W.cell? ⟨b,off+j*4+1,none⟩=some (.int .u64 (X j))∧W.cell? ⟨b,off+j*4+2,none⟩=some (.int .u64 (Y j))∧W.cell? ⟨b,off+j*4+3,none⟩=some (.pointer (Q j))) (h0:J [] W) :
   CallsIn F n prog 205 #[.func (.yield l) #[] #[],.pointer (some ⟨Bs,0,none⟩)] W fun e W'=>(∃ v,e=.returned v) ∧
    ((∃ ys,ys=iw len 0∧J ys W')∨(∃ pre,True∧Jx pre W')):=by(
 refine callsIn_of_wp func205 rfl hf ?_ hro
 simp only[ntmps205,List.size_toArray,List.length_cons,List.length_nil,Nat.reduceAdd,Nat.reduceSub,Array.replicate_succ,Array.replicate_zero,List.push_toArray,List.append_toArray,List.nil_append,List.cons_append]
 gi_wp2
 gi_loopw [3] (fun i wr=>∃ k:Nat,k≤len∧i=.int .i64 ((k:Int)-1)∧J (iw len k) wr∧zab n₀ gs W wr) (fun i _=>(intOf i+1).toNat)
 case atStart=>exact⟨len,Nat.le_refl _,rfl,by rw[zlb];exact h0,zab.refl _ _ _⟩
 case round =>(
 obtain⟨k,hk,rfl,hJs,hnx⟩:=hrel
 by_cases hlt:k=0
 ·subst hlt
  gi_wp2
  go_end0
  exact⟨⟨_,rfl⟩,.inl ⟨_,rfl,hJs⟩⟩
 ·(
 obtain⟨j,rfl⟩:∃ j,k=j+1:=⟨k-1,by omega⟩
 rw[show (((j+1:Nat):Int)-1)=(j:Int) from by omega]
 obtain⟨fn,tmps,assign,body,hy,hR⟩:=hY _ ⟨j,by omega⟩ wr hJs (by rw[zml];omega)
 dsimp only at hy
 obtain⟨c0,c1,c2,c3⟩:=hc j (by omega)
 have c0':=(hnx.cell (p:=⟨b,off+j*4,none⟩) hb hbg).trans c0
 have c1':=(hnx.cell (p:=⟨b,off+j*4+1,none⟩) hb hbg).trans c1
 have c2':=(hnx.cell (p:=⟨b,off+j*4+2,none⟩) hb hbg).trans c2
 have c3':=(hnx.cell (p:=⟨b,off+j*4+3,none⟩) hb hbg).trans c3
 have hBs':=(hnx.cell (p:=⟨Bs,0,none⟩) hBn hBg).trans hBs
 clear hc c0 c1 c2 c3
 gi_wp2
 refine hR.mono ?_
 rintro e W3 (⟨rfl,hJ3,hk3⟩|⟨rfl,hJx3⟩)
 ·gi_wp2
  go_roundw
  case rel=>exact⟨j,by omega,by simp,by rw[ziu len j (by omega)];exact hJ3,hnx.trans hk3⟩
  case measure=>simp[intOf]
 ·gi_wp2
  refine bodyPost_ret (results_none rfl _ _ _) rfl ?_
  exact⟨⟨_,rfl⟩,.inr ⟨_,trivial,hJx3⟩⟩)))
theorem zsm (F:Fence) (n:Nat) (hf:F.fn 205) (hro:F.round=none) (hn:1≤n) (Bs n₀:Nat) (gs:List Nat) (b off len cap:Nat) (S:Nat→Bool) (X Y:Nat→Int) (Q:Nat→Option Addr) (hreach:len≤1000000) (w:World) (hb:b<n₀) (hbg:b ∉ gs) (hn₀:n₀≤w.heap.size)
  (hBs:w.cell? ⟨Bs,0,none⟩=some (.slice (some ⟨b,off,none⟩) len cap)) (hBn:Bs<n₀) (hBg:Bs ∉ gs)
  (hc:∀ j,j<len→w.cell? ⟨b,off+j*4,none⟩=some (.bool (S j))∧w.cell? ⟨b,off+j*4+1,none⟩=some (.int .u64 (X j))∧w.cell? ⟨b,off+j*4+2,none⟩=some (.int .u64 (Y j))∧w.cell? ⟨b,off+j*4+3,none⟩=some (.pointer (Q j))) :
  SeqStopsK F n prog 205 #[.pointer (some ⟨Bs,0,none⟩)] (fun x:Fin len=>#[.int .i64 ((x.1:Nat):Int),.agg #[.bool (S x.1),.int .u64 (X x.1),.int .u64 (Y x.1),.pointer (Q x.1)]]) (zab n₀ gs) (fun ys=>ys=iw len 0) (fun _=>True) len w:=fun l J Jx W hW _ _ hY h0 =>
 qaa F n hf hro hn l Bs n₀ gs b off len cap S X Y Q hreach hb hbg J Jx hY W ((hW.cell (p:=⟨Bs,0,none⟩) (by show Bs<_;omega)).trans hBs) hBn hBg (fun j hj=>by
  obtain⟨c0,c1,c2,c3⟩:=hc j hj
  have hbl:b<w.heap.size:=by omega
  exact⟨(hW.cell (p:=⟨b,off+j*4,none⟩) hbl).trans c0,(hW.cell (p:=⟨b,off+j*4+1,none⟩) hbl).trans c1,(hW.cell (p:=⟨b,off+j*4+2,none⟩) hbl).trans c2,(hW.cell (p:=⟨b,off+j*4+3,none⟩) hbl).trans c3⟩) h0
theorem qee (F:Fence) (n:Nat) (hf:F.fn 166) (hro:F.round=none) (a:Option Addr) (len cap:Nat) (w:World) :
   CallsIn F n prog 166 #[.slice a len cap] w fun e w'=>e=.returned (.func (.func 205) #[] #[.pointer (some ⟨w.heap.size,0,none⟩)])∧w'=w.alloc (.cells #[.slice a len cap] 46):=by(
 refine callsIn_of_wp func166 rfl hf ?_ hro
 simp only[ntmps166,List.size_toArray,List.length_cons,List.length_nil,Nat.reduceAdd,Nat.reduceSub,Array.replicate_succ,Array.replicate_zero,List.push_toArray,List.append_toArray,List.nil_append,List.cons_append]
 gi_wp2
 go_ret
 exact⟨rfl,rfl⟩)
attribute [local go_sem] Oper.semAt_some
theorem ziw {A B:World} {row:Option Nat} (hg:A.grownBy B row) (hr:∀ r,row=some r→∃ o:Obj,A.heap[r]? = some o∧o.isCells=false):Calm A B :=
 ⟨hg.size,fun k i v h=>by
  obtain⟨o,ho,hc⟩:=cells_of_cell h
  exact grownBy_keeps_cells hg hr ho hc⟩
theorem zmi {W V:World} {l gs:List Nat} (hb:But l W V) (hc:∀ g ∈ l,∃ v,W.cell? ⟨g,0,none⟩=some v) (B n₀:Nat) (hn:n₀≤W.heap.size) (hl:∀ g ∈ l,g ∈ gs∨n₀≤g):KeepsFrom B W V∧zab n₀ gs W V :=
 ⟨⟨hb.size,fun k o _ hk ho=>by
  have hne:k ∉ l:=by
   intro hkl
   obtain⟨v,hv⟩:=hc k hkl
   obtain⟨o',ho',hc'⟩:=cells_of_cell hv
   rw[hk] at ho'
   obtain rfl:=Option.some.inj ho'
   rw[ho] at hc'
   simp at hc'
  exact (hb.block k (Array.getElem?_eq_some_iff.1 hk).1 hne).trans hk⟩,fun k hk hne=>hb.block k (by omega) (fun h=>(hl k h).elim hne (fun h=>by omega))⟩
structure zbx (w W0:World) (g4 g5 g7 g8:Nat) (S:Nat→Bool) (X Y:Nat→Int) (Q:Nat→Option Addr) (fs:List Rat) (o u sum pw:Rat) (W:World):Prop where
 b7:az W g7 sum
 b8:az W g8 pw
 b4:az W g4 o
 b5:az W g5 u
 all:∀ t,t<fs.length→am W (.agg #[.bool (S t),.int .u64 (X t),.int .u64 (Y t),.pointer (Q t)]) (fs[t]?.getD 0)
 size:W0.heap.size≤W.heap.size
 below:Below w.heap.size w W
theorem zbx.but {w W0:World} {g4 g5 g7 g8:Nat} {S:Nat→Bool} {X Y:Nat→Int} {Q:Nat→Option Addr} {fs:List Rat} {o u sum pw:Rat} {W V:World} (h:zbx w W0 g4 g5 g7 g8 S X Y Q fs o u sum pw W) (hb:But [] W V):zbx w W0 g4 g5 g7 g8 S X Y Q fs o u sum pw V :=
 ⟨h.b7.but hb,h.b8.but hb,h.b4.but hb,h.b5.but hb,fun t ht=>(h.all t ht).but hb,Nat.le_trans h.size hb.size,((But.of_below h.below).trans' hb).below⟩
theorem zbx.calm {w W0:World} {g4 g5 g7 g8:Nat} {S:Nat→Bool} {X Y:Nat→Int} {Q:Nat→Option Addr} {fs:List Rat} {o u sum pw:Rat} {W V:World} (h:zbx w W0 g4 g5 g7 g8 S X Y Q fs o u sum pw W) (hc:Calm W V) (hb:Below w.heap.size w V):zbx w W0 g4 g5 g7 g8 S X Y Q fs o u sum pw V :=
 ⟨h.b7.calm hc,h.b8.calm hc,h.b4.calm hc,h.b5.calm hc,fun t ht=>(h.all t ht).calm hc,Nat.le_trans h.size hc.size,hb⟩
theorem zbx.qjx {w W0:World} {g4 g5 g7 g8:Nat} {S:Nat→Bool} {X Y:Nat→Int} {Q:Nat→Option Addr} {fs:List Rat} {o u sum pw sum':Rat} {W:World} (h:zbx w W0 g4 g5 g7 g8 S X Y Q fs o u sum pw W) (od:w.heap.size≤g4∧g4<g5∧g5<g7∧g7<g8) {s:Bool} {x y:Int} {p:Option Addr} (hf:am W (.agg #[.bool s,.int .u64 x,.int .u64 y,.pointer p]) sum'):zbx w W0 g4 g5 g7 g8 S X Y Q fs o u sum' pw (gm W g7 s x y p):=by(
 have hP:=aw W g7 s x y p
 obtain⟨c,hc⟩:=h.b7.bool
 have hcs:∀ g ∈ [g7],∃ s,W.cell? ⟨g,0,none⟩=some (.bool s):=fun g hg=>by simp at hg;subst hg;exact⟨c,hc⟩
 exact⟨h.b7.put hf,h.b8.beside hP (by simp;omega) hcs,h.b4.beside hP (by simp;omega) hcs,h.b5.beside hP (by simp;omega) hcs,fun t ht=>(h.all t ht).over hc hP,Nat.le_trans h.size hP.size,((But.of_below h.below).trans hP (fun x hx=>by simp at hx;subst hx;exact .inr (by omega))).below⟩)
theorem zbx.qjw {w W0:World} {g4 g5 g7 g8:Nat} {S:Nat→Bool} {X Y:Nat→Int} {Q:Nat→Option Addr} {fs:List Rat} {o u sum pw pw':Rat} {W:World} (h:zbx w W0 g4 g5 g7 g8 S X Y Q fs o u sum pw W) (od:w.heap.size≤g4∧g4<g5∧g5<g7∧g7<g8) {s:Bool} {x y:Int} {p:Option Addr} (hf:am W (.agg #[.bool s,.int .u64 x,.int .u64 y,.pointer p]) pw'):zbx w W0 g4 g5 g7 g8 S X Y Q fs o u sum pw' (gm W g8 s x y p):=by(
 have hP:=aw W g8 s x y p
 obtain⟨c,hc⟩:=h.b8.bool
 have hcs:∀ g ∈ [g8],∃ s,W.cell? ⟨g,0,none⟩=some (.bool s):=fun g hg=>by simp at hg;subst hg;exact⟨c,hc⟩
 exact⟨h.b7.beside hP (by simp;omega) hcs,h.b8.put hf,h.b4.beside hP (by simp;omega) hcs,h.b5.beside hP (by simp;omega) hcs,fun t ht=>(h.all t ht).over hc hP,Nat.le_trans h.size hP.size,((But.of_below h.below).trans hP (fun x hx=>by simp at hx;subst hx;exact .inr (by omega))).below⟩)
theorem zro (f:Nat→Rat) (o u:Rat) (c:Nat) (ho:Len o c) (hu:Len u c):∀ (l:List Nat) (q:Rat × Rat) (a s:Nat),Len q.1 s→Len q.2 a→(∀ t ∈ l,Len (f t) c)→Len (l.foldl (zoz f o u) q).1 (s+l.length*(a+l.length*c+2*c+1))∧Len (l.foldl (zoz f o u) q).2 (a+l.length*c)
 | [],q,a,s,h1,h2,_=>⟨h1.mono (by omega),h2.mono (by omega)⟩
 | t::l,q,a,s,h1,h2,h=>by
  have hf:=h t (by simp)
  have l1:Len (zoz f o u q t).1 (s+a+2*c+1):=zox (zdf h1 ho (s+c) (by omega)) (zdf hf h2 (c+a) (by omega)) _ (by omega)
  have l2:Len (zoz f o u q t).2 (a+c):=zdf h2 hu _ (by omega)
  have ih:=zro f o u c ho hu l (zoz f o u q t) (a+c) (s+a+2*c+1) l1 l2 (fun z hz=>h z (by simp[hz]))
  have e0:(t::l).length=l.length+1:=rfl
  have e1:(l.length+1)*c=l.length*c+c:=Nat.succ_mul _ _
  rw[e0]
  refine⟨ih.1.mono ?_,ih.2.mono (by rw[e1];omega)⟩
  rw[e1,show ∀ z,(l.length+1)*z=l.length*z+z from fun z=>Nat.succ_mul _ _]
  have e2:a+c+l.length*c+2*c+1=a+(l.length*c+c)+2*c+1:=by omega
  rw[e2]
  generalize l.length*(a+(l.length*c+c)+2*c+1)=z
  omega
theorem zyz (f:Nat→Rat) (o u:Rat) (c:Nat) (ho:Len o c) (hu:Len u c) (l:List Nat) (h:∀ t ∈ l,Len (f t) c):Len (dw f o u l).1 (l.length*(l.length*c+2*c+2)+1)∧Len (dw f o u l).2 (l.length*c+1):=by(
 have h1:=zro f o u c ho hu l (0,1) 1 1 (zgj _ (by omega)) (zgk 1 (by decide)) h
 unfold dw
 refine⟨h1.1.mono ?_,h1.2.mono (by omega)⟩
 rw[show 1+l.length*c+2*c+1=l.length*c+2*c+2 from by omega]
 omega)
theorem qau (b off cap n:Nat) (fs:List Rat) (c:Nat) (vo vu:Value) (o u:Rat) (w:World) (hv:aq w (.slice (some ⟨b,off,none⟩) n cap) fs) (hN:n=fs.length) (hn0:0<n) (hn1:n≤50) (ho:am w vo o) (hu:am w vu u) (lf:∀ f ∈ fs,Len f c) (hc:c≤100) (lo:Len o c) (lu:Len u c) :
   Calls prog 87 #[.slice (some ⟨b,off,none⟩) n cap,vo,vu] w fun e w'=>e=.returned (.bool (decide ((dw (fun t=>fs[t]?.getD 0) o u ((iw fs.length 0).map (·.1))).1≤0)))∧But [] w w':=by(
 subst hN
 obtain⟨S,X,Y,Q,hV⟩:∃ (S:Nat→Bool) (X Y:Nat→Int) (Q:Nat→Option Addr),∀ t,t<fs.length→P4o w b (off+t*4) (S t) (X t) (Y t) (Q t)∧am w (.agg #[.bool (S t),.int .u64 (X t),.int .u64 (Y t),.pointer (Q t)]) (fs[t]?.getD 0):=by
  have h:∀ t,∃ q:Bool × Int × Int × Option Addr,t<fs.length→P4o w b (off+t*4) q.1 q.2.1 q.2.2.1 q.2.2.2∧am w (.agg #[.bool q.1,.int .u64 q.2.1,.int .u64 q.2.2.1,.pointer q.2.2.2]) (fs[t]?.getD 0):=fun t=>by
   by_cases ht:t<fs.length
   ·obtain⟨s,x,y,p,h1,h2⟩:=hv.get t (by omega)
    exact⟨(s,x,y,p),fun _=>⟨h1,h2⟩⟩
   ·exact⟨(false,0,0,none),fun h=>absurd h ht⟩
  obtain⟨q,hq⟩:=Classical.axiomOfChoice h
  exact⟨fun t=>(q t).1,fun t=>(q t).2.1,fun t=>(q t).2.2.1,fun t=>(q t).2.2.2,hq⟩
 obtain⟨ws,wx,FW,CW⟩:=zat 1 (by omega) (by omega)
 have HCW:=af CW
 have HFW:=af FW
 obtain⟨x1,y1,p1,rfl,-⟩:=ho.agg
 obtain⟨x2,y2,p2,rfl,-⟩:=hu.agg
 generalize hsf:decide (o.num<0)=s1 at *
 generalize hsg:decide (u.num<0)=s2 at *
 clear hsf hsg FW CW
 obtain⟨W1,hW1⟩:∃ W1,W1=((w.alloc (.cells #[.bool s1,.int .u64 x1,.int .u64 y1,.pointer p1] 27)).alloc (.cells #[.bool s2,.int .u64 x2,.int .u64 y2,.pointer p2] 27)).alloc (.cells #[.bool false,.int .u64 0,.int .u64 0,.pointer none] 27):=⟨_,rfl⟩
 have x4:az W1 w.heap.size o:=by rw[hW1];exact ((az.new w s1 x1 y1 p1 o 27 ho).but ((But.refl _ _).alloc _)).but ((But.refl _ _).alloc _)
 have x5:az W1 (w.heap.size+1) u:=by
  rw[hW1]
  have h:=(az.new (w.alloc (.cells #[.bool s1,.int .u64 x1,.int .u64 y1,.pointer p1] 27)) s2 x2 y2 p2 u 27 (hu.but ((But.refl _ _).alloc _))).but ((But.refl _ _).alloc (.cells #[.bool false,.int .u64 0,.int .u64 0,.pointer none] 27))
  rw[show (w.alloc (.cells #[.bool s1,.int .u64 x1,.int .u64 y1,.pointer p1] 27)).heap.size=w.heap.size+1 from by simp] at h
  exact h
 have x7:az W1 (w.heap.size+1+1) 0:=by
  rw[hW1]
  have h:=az.new ((w.alloc (.cells #[.bool s1,.int .u64 x1,.int .u64 y1,.pointer p1] 27)).alloc (.cells #[.bool s2,.int .u64 x2,.int .u64 y2,.pointer p2] 27)) false 0 0 none 0 27 (zaj _)
  rw[show ((w.alloc (.cells #[.bool s1,.int .u64 x1,.int .u64 y1,.pointer p1] 27)).alloc (.cells #[.bool s2,.int .u64 x2,.int .u64 y2,.pointer p2] 27)).heap.size=w.heap.size+1+1 from by simp] at h
  exact h
 have bW:But [] w W1:=by rw[hW1];exact (((But.refl _ _).alloc _).alloc _).alloc _
 have X4:=af x4
 have X5:=af x5
 have X7:=af x7
 have BW:=af bW
 have HV:=af hV
 clear x4 x5 x7 bW hV ho hu hv
 refine (callsIn_wide (n:=4)).1 ?_
 refine callsIn_of_wp_marks func87 rfl trivial ?_ rfl
 simp only[ntmps87,List.size_toArray,List.length_cons,List.length_nil,Nat.reduceAdd,Nat.reduceSub,Array.replicate_succ,Array.replicate_zero,List.push_toArray,List.append_toArray,List.nil_append,List.cons_append]
 gi_wp2_with fail
 rw[← hW1]
 clear hW1
 refine⟨trivial,(callsIn_wide.2 (ae HCW _)).mono ?_⟩
 rintro e V ⟨rfl,hb1⟩
 have BN:=af ((ae BW).trans' hb1)
 have X41:=af ((ae X4).but hb1)
 have X51:=af ((ae X5).but hb1)
 have X71:=af ((ae X7).but hb1)
 have l7:w.heap.size+1+1<V.heap.size:=((ae X7).but hb1).lt
 clear hb1 X4 X5 X7 BW HCW
 generalize hg7:w.heap.size+1+1=g7 at *
 generalize hg5:w.heap.size+1=g5 at *
 generalize hg4:w.heap.size=g4 at *
 gi_wp2_with (refine⟨trivial,?_⟩;gi_at_call 166;refine (qee Fence.wide _ trivial rfl _ _ _ _).mono ?_;rintro e w' ⟨rfl,rfl⟩)
 have e8:=(az.new V ws wx 0 none ((1:Int):Rat) 27 (ae HFW V))
 obtain⟨W0,hW0⟩:∃ W0,(V.alloc (.cells #[.bool ws,.int .u64 wx,.int .u64 0,.pointer none] 27)).alloc (.cells #[.slice (some ⟨b,off,none⟩) fs.length cap] 46)=W0:=⟨_,rfl⟩
 have hz:W0.heap.size=V.heap.size+1+1:=by rw[← hW0];simp
 have b8:az W0 V.heap.size ((1:Int):Rat):=by rw[← hW0];exact e8.but ((But.refl _ _).alloc _)
 have cB:W0.cell? ⟨V.heap.size+1,0,none⟩=some (.slice (some ⟨b,off,none⟩) fs.length cap):=by
  rw[← hW0]
  have n2:((V.alloc (.cells #[.bool ws,.int .u64 wx,.int .u64 0,.pointer none] 27)).alloc (.cells #[.slice (some ⟨b,off,none⟩) fs.length cap] 46)).cell? ⟨(V.alloc (.cells #[.bool ws,.int .u64 wx,.int .u64 0,.pointer none] 27)).heap.size,0,none⟩=some (.slice (some ⟨b,off,none⟩) fs.length cap):=by rw[World.cell?_alloc_new];rfl
  rw[World.size_alloc] at n2
  exact n2
 have hBV:But [] V W0:=by rw[← hW0];exact ((But.refl _ _).alloc _).alloc _
 rw[hW0]
 clear hW0 e8
 have hB0:But [] w W0:=(ae BN).trans' hBV
 have b4:=(ae X41).but hBV
 have b5:=(ae X51).but hBV
 have b7:=(ae X71).but hBV
 obtain⟨g8,hg8⟩:∃ g8,g8=V.heap.size:=⟨_,rfl⟩
 obtain⟨gB,hgB⟩:∃ gB,gB=V.heap.size+1:=⟨_,rfl⟩
 rw[← hgB] at cB
 rw[← hg8] at b8
 rw[← hgB,← hg8]
 have hbw:b<w.heap.size:=ai (ae HV 0 hn0).1.1
 have hord:w.heap.size≤g4∧g4<g5∧g5<g7∧g7<g8:=by omega
 have oB:g8<gB:=by omega
 have oW:gB<W0.heap.size:=by omega
 have hlw:=fun t (ht:t<fs.length)=>show Len (fs[t]?.getD 0) c by rw[List.getElem?_eq_getElem ht];exact lf _ (List.getElem_mem ht)
 have HLW:=af hlw
 have HORD:=af hord
 have ob7:b<g4:=by omega
 clear hg8 hgB hz hlw
 refine wpIn_rangeFunc_ownH rfl (by omega) (gf := 205) (lb:=#[.pointer (some ⟨gB,0,none⟩)]) rfl trivial (enters_of func205 (by kernel_rfl) rfl)
  (zsm Fence.wide _ trivial rfl (by omega) gB W0.heap.size [g7,g8] b off fs.length cap S X Y Q (by omega) W0 (by omega) (by simp;omega) (Nat.le_refl _) cB (by omega) (by simp;omega) (fun j hj=>(ae HV j hj).1.but hB0 (by simp)))
  (fun h k=>zab.trans h k) (fun W l o o' hl _ _ _=>zab.put W l o' hl) (Below.refl _ _) (fun _=>rfl)
  (fun (pre:List (Fin fs.length)) W=>zbx w W0 g4 g5 g7 g8 S X Y Q fs o u (dw (fun t=>fs[t]?.getD 0) o u (pre.map (fun z:Fin fs.length=>z.1))).1 (dw (fun t=>fs[t]?.getD 0) o u (pre.map (fun z:Fin fs.length=>z.1))).2 W)
  (fun _ _ _=>False)
  (fun pre A B row hi hg hr=>hi.calm (ziw hg (fun r e=>(hr r e).2)) (ownFrom_below (β:=Unit) (Nat.le_refl _) (by omega) () A B row hi.below hg hr))
  (fun _ _ _ _ _ h _ _=>h)
  ⟨b7,b8,b4,b5,fun t ht=>(ae HV t ht).2.but hB0,Nat.le_refl _,hB0.below⟩
  (fun x a' W=>∃ Bx,W0.heap.size≤Bx∧az W Bx (fs[x.1]?.getD 0)∧a'={ tmps:=#[.slice (some ⟨b,off,none⟩) fs.length cap,.agg #[.bool s1,.int .u64 x1,.int .u64 y1,.pointer p1],.agg #[.bool s2,.int .u64 x2,.int .u64 y2,.pointer p2],undef,.pointer (some ⟨g4,0,none⟩),.pointer (some ⟨g5,0,none⟩),.bool false,.pointer (some ⟨g7,0,none⟩),.pointer (some ⟨g8,0,none⟩),undef,.pointer (some ⟨Bx,0,none⟩),.agg #[.bool ws,.int .u64 wx,.int .u64 0,.pointer none],.slice (some ⟨b,off,none⟩) fs.length cap,.func (.func 205) #[] #[.pointer (some ⟨gB,0,none⟩)],.int .i64 ((x.1:Nat):Int),.agg #[.bool (S x.1),.int .u64 (X x.1),.int .u64 (Y x.1),.pointer (Q x.1)],undef,undef,undef,undef,undef,undef,undef,undef,undef,undef,undef,undef,undef],defers:=[] })
  (fun x a' _ A B row ⟨Bx,h0,h1,e⟩ hg hr=>⟨Bx,h0,h1.calm (ziw hg (fun r e=>(hr r e).2)),e⟩) ?assign ?body ?done ?stop
 case assign =>(
 rintro l pre x W K hi hK
 gi_wp2
 have hbn:=(But.refl [] W).alloc (.cells #[.bool (S x.1),.int .u64 (X x.1),.int .u64 (Y x.1),.pointer (Q x.1)] 27)
 exact hK _ _ ((KeepsOthers.alloc _ _).from _) (fun k hk _=>hbn.block k (by have:=hi.size;omega) (by simp)) (hi.but hbn) ⟨W.heap.size,hi.size,az.new W _ _ _ _ _ 27 (hi.all x.1 x.2),rfl⟩)
 case body =>(
 rintro l pre ⟨t,ht⟩ a' W hl' ⟨rec,hrec⟩ hi ⟨Bx,hBx,hx,rfl⟩ hlt
 have hlen:∀ s ∈ pre.map (·.1),Len ((fun t=>fs[t]?.getD 0) s) c:=fun s hs=>by
  obtain⟨y,-,rfl⟩:=List.mem_map.1 hs
  exact ae HLW y.1 y.2
 have hw:=zyz (fun t=>fs[t]?.getD 0) o u c lo lu (pre.map (·.1)) hlen
 have hsn:Hid (dw (fun t=>fs[t]?.getD 0) o u ((pre++[(⟨t,ht⟩:Fin fs.length)]).map (·.1))=zoz (fun t=>fs[t]?.getD 0) o u (dw (fun t=>fs[t]?.getD 0) o u (pre.map (·.1))) t):=by
  show _=_
  rw[List.map_append]
  unfold dw
  rw[List.foldl_append]
  rfl
 rw[List.length_map] at hw
 have hpl:pre.length≤50:=by omega
 have m1:pre.length*c≤50*100:=Nat.mul_le_mul hpl hc
 have m2:pre.length*(pre.length*c+2*c+2)≤50*5202:=Nat.mul_le_mul hpl (by omega)
 have ls:=hw.1.mono (show pre.length*(pre.length*c+2*c+2)+1≤261000 by omega)
 have lp:=hw.2.mono (show pre.length*c+1≤5001 by omega)
 generalize dw (fun t=>fs[t]?.getD 0) o u (pre.map (·.1))=q at *
 obtain⟨sm,pw⟩:=q
 dsimp only at hi hx ls lp
 have HI:=af hi
 have HX:=af hx
 have lt':=ae HLW t ht
 obtain⟨⟨s7,x7,y7,p7,c7,f7⟩,z7⟩:=id hi.b7
 obtain⟨⟨t4,a4,b4',q4,c4,f4⟩,-⟩:=id hi.b4
 obtain⟨⟨sx,xx,yx,px,cx,fx⟩,-⟩:=id hx
 obtain⟨⟨s8,x8,y8,p8,c8,f8⟩,-⟩:=id hi.b8
 clear hi hx hw m1 m2 hlen
 gi_wp2
 refine zoh 5 l _ _ _ W s7 x7 y7 p7 t4 a4 b4' q4 sx xx yx px s8 x8 y8 p8 sm o (fs[t]?.getD 0) pw g7 g4 Bx g8 (by simp) (by simp[Act.eval]) (by simp[Act.eval]) (by simp[Act.eval]) (by simp[Act.eval]) c7 z7 c4 cx c8 (fun w' hb=>dx _ _ _ _ w' (f7.but hb) (f4.but hb) (ls.mono (by omega)) (lo.mono (by omega))) (fun w' hb=>dx _ _ _ _ w' (fx.but hb) (f8.but hb) (lt'.mono (by omega)) (lp.mono (by omega))) (fun w' v v' hb h1 h2=>zbt 300000 10000 (by omega) _ _ _ _ w' h1 h2 (zdf ls lo 300000 (by omega)) (zdf lt' lp 10000 (by omega))) ?_
 intro w1 v2 v5 s' x' y' p' hb1 hf1
 simp only[bi,List.foldl_cons,List.foldl_nil,Act.put,List.setIfInBounds_toArray,List.set_cons_zero,List.set_cons_succ]
 have I1:=af (((ae HI).but hb1).qjx (ae HORD) hf1)
 have JB:Hid (But [g7,g8] W (gm w1 g7 s' x' y' p')):=(But.of_nil hb1).trans (aw w1 g7 s' x' y' p') (fun z hz=>by simp at hz;subst hz;exact .inl (by simp))
 clear hb1 hf1 c7 z7 c4 cx c8 f7 f4 fx f8
 generalize gm w1 g7 s' x' y' p'=V1 at *
 obtain⟨⟨s8,x8,y8,p8,⟨k0,k1,k2,k3⟩,f8⟩,z8⟩:=id (ae I1).b8
 obtain⟨⟨s5,x5,y5,p5,⟨l0,l1,l2,l3⟩,f5⟩,-⟩:=id (ae I1).b5
 have MU:=af (zkx (dx _ _ _ _ V1 f8 f5 (lp.mono (by omega)) (lu.mono (by omega))))
 have gl8:g8<V1.heap.size:=ai k0
 clear f8 f5
 gi_wp2_with fail
 refine⟨trivial,(CallsIn.inRound l (callsIn_wide.2 (ae MU))).mono ?_⟩
 rintro e w2 ⟨s3,x3,y3,p3,rfl,hf3,hb3⟩
 have I3:=af ((ae I1).but hb3)
 have HF3:=af hf3
 have JB3:=af ((ae JB).trans (But.of_nil (l:=[g7,g8]) hb3) (fun z hz=>.inl hz))
 obtain⟨⟨s9,x9,y9,p9,⟨k0',k1',k2',k3'⟩,-⟩,z9⟩:=id (ae I3).b8
 have gl8':g8<w2.heap.size:=ai k0'
 clear hf3 hb3 MU k0 k1 k2 k3 l0 l1 l2 l3 z8 I1 JB
 gi_wp2
 have hi5:=(ae I3).qjw (ae HORD) (ae HF3)
 have kp:=zmi (l:=[g7,g8]) (gs:=[g7,g8]) ((ae JB3).trans (aw w2 g8 s3 x3 y3 p3) (fun z hz=>by simp at hz;subst hz;exact .inl (by simp))) (fun z hz=>by
  simp at hz
  rcases hz with rfl|rfl
  ·exact⟨_,(ae HI).b7.bool.choose_spec⟩
  ·exact⟨_,(ae HI).b8.bool.choose_spec⟩) W0.heap.size W0.heap.size (ae HI).size (fun z hz=>.inl hz)
 refine⟨kp.1,kp.2,?_⟩
 show zbx w W0 g4 g5 g7 g8 S X Y Q fs o u _ _ _
 rw[ae hsn]
 exact hi5)
 case done =>(
 rintro D ys W hD rfl hi hK
 obtain⟨⟨s7,x7,y7,p7,⟨a0,a1,a2,a3⟩,f7⟩,z7⟩:=id hi.b7
 have SG:=af (o5 _ _ W f7)
 have HI:=af hi
 have HK:=af hK
 have hDl:D<W.heap.size:=(Array.getElem?_eq_some_iff.1 hK).1
 generalize hsm:(dw (fun t=>fs[t]?.getD 0) o u ((iw fs.length 0).map (fun z:Fin fs.length=>z.1))).1=sm at *
 obtain⟨sg,hsg⟩:∃ sg,sg=sm.num.sign:=⟨_,rfl⟩
 rw[← hsg] at SG
 have es:decide (sg≤0)=decide (sm≤0):=by
  have h1:sm≤0↔sm.num≤0:=by rw[Rat.le_iff];simp
  have h2:sg≤0↔sm.num≤0:=by
   rw[hsg]
   rcases Int.lt_trichotomy sm.num 0 with h | h | h
   ·rw[Int.sign_eq_neg_one_of_neg h];omega
   ·rw[h];decide
   ·rw[Int.sign_eq_one_of_pos h];omega
  by_cases h:sg≤0
  ·rw[decide_eq_true h,decide_eq_true (h1.2 (h2.1 h))]
  ·rw[decide_eq_false h,decide_eq_false (fun h'=>h (h2.2 (h1.1 h')))]
 have HES:=af es
 have HSM:=af hsm
 clear hi hK f7 z7 es hsg hsm
 gi_wp2_with fail
 refine⟨trivial,(callsIn_wide.2 (ae SG)).mono ?_⟩
 rintro e w5 ⟨rfl,hb5⟩
 have hK5:Hid (w5.heap[D]? = some (.deferred (some []))):=(hb5.block D hDl (by simp)).trans (ae HK)
 have I5:=af ((ae HI).but hb5)
 clear hb5 SG a0 a1 a2 a3 HI HK
 gi_wp2
 have hB1:But [] w w5:=But.of_below (ae I5).below
 have hB2:But [] w (w5.putObj D (.deferred none)):=hB1.trans (l':=[D]) ⟨rfl,rfl,rfl,by simp,fun k _ hk=>World.putObj_heap_other (by simpa using hk)⟩ (fun x hx=>by simp at hx;subst hx;exact .inr (by omega))
 refine⟨by simp,.inl ⟨_,_,rfl,run_takeDeferred (ae hK5),?_⟩⟩
 refine⟨.bool (decide (sg≤0)),(by simp[results,results87,go_sem]),?_,hB2⟩
 rw[ae HES,← ae HSM])
 case stop =>
  rintro D c pre W _ _ h
  exact h.elim)
def zby (fs:List Rat):Rat:=fs.foldl (fun s f=>s+f) 0
theorem zeq (fs:List Rat) (k:Nat) (hk:k<fs.length):zby (fs.take (k+1))=zby (fs.take k)+fs[k]?.getD 0:=by(
 unfold zby
 rw[List.take_add_one,List.getElem?_eq_getElem hk,List.foldl_append]
 rfl)
theorem zkr (c:Nat) (fs:List Rat) (h:∀ f ∈ fs,Len f c):∀ k,k≤fs.length→Len (zby (fs.take k)) (k*(c+1)+1)
 | 0,_=>by
  rw[List.take_zero]
  exact zgj _ (by omega)
 | k+1,hk=>by
  have ih:=zkr c fs h k (by omega)
  rw[zeq fs k (by omega),List.getElem?_eq_getElem (by omega)]
  exact zox ih (h _ (List.getElem_mem (by omega))) _ (by rw[Nat.succ_mul];omega)
def o9 (fs:List Rat):Int:=if fs.length<1∨201<fs.length then 4 else if fs.any (fun f=>decide (f.num<0)) then 1 else if zby fs=1 then 0 else 10
theorem zgm (v:Value) (fs:List Rat) (c:Nat) (w:World) (hv:aq w v fs) (hn:fs.length≤1000) (lf:∀ f ∈ fs,Len f c) (hc:c≤100) :
   Calls prog 43 #[v] w fun e w'=>e=.returned (zht (o9 fs))∧But [] w w':=by(
 obtain⟨q,cap,rfl,hcap,-⟩:=id hv
 obtain⟨n,hN⟩:∃ n,n=fs.length:=⟨_,rfl⟩
 rw[← hN] at hn hcap ⊢
 rw[← hN] at hv
 have HV:=af hv
 have HN:=af hN
 clear hv hN
 obtain⟨ce,hce⟩:∃ ce,ce=o9 fs:=⟨_,rfl⟩
 rw[← hce]
 have HCE:=af hce
 clear hce
 go_enter func43,ntmps43
 by_cases h0:n<1
 ·(
 obtain rfl:n=0:=by omega
 have e4:ce=4:=by rw[ae HCE];unfold o9;rw[if_pos (.inl (by have:=ae HN;omega))]
 subst e4
 go_wp2
 go_ret
 exact⟨rfl,But.refl _ _⟩)
 ·(
 by_cases h1:201<n
 ·(
 have e4:ce=4:=by rw[ae HCE];unfold o9;rw[if_pos (.inr (by have:=ae HN;omega))]
 subst e4
 go_wp2
 go_ret
 exact⟨rfl,But.refl _ _⟩)
 ·(
 go_wp2
 have x3:=az.new w false 0 0 none 0 27 (zaj _)
 have bV:But [] w (w.alloc (.cells #[.bool false,.int .u64 0,.int .u64 0,.pointer none] 27)):=(But.refl _ _).alloc _
 have X3:=af x3
 have BV:=af bV
 clear x3 bV
 have q3:w.heap.size≤w.heap.size:=Nat.le_refl _
 generalize hg3:w.heap.size=g3 at X3
 have Q3:Hid (w.heap.size≤g3):=by show _≤_;omega
 clear hg3 q3
 generalize w.alloc (.cells #[.bool false,.int .u64 0,.int .u64 0,.pointer none] 27)=V at *
 go_loopw [17] (fun iv wr=>∃ k:Nat,k≤n∧iv=.int .i64 (k:Int)∧Hid ((∀ f ∈ fs.take k,¬ f.num<0)∧az wr g3 (zby (fs.take k))∧But [] w wr)) (fun iv _=>n-(intOf iv).toNat)
 case atStart=>exact⟨0,Nat.zero_le _,rfl,fun f hf=>by simp at hf,ae X3,ae BV⟩
 case round =>(
 obtain⟨k,hk,rfl,HI⟩:=hrel
 rename World=>wr
 clear X3 BV
 by_cases hlt:k<n
 ·(
 have hkl:k<fs.length:=by have:=ae HN;omega
 have hfx:=(ae HV).but (ae HI).2.2
 rcases hfx.open with ⟨er,-⟩|⟨-,rb,roff,rcap2,er,-,-⟩
 ·rw[er] at hkl
  simp at hkl
 simp only[Value.slice.injEq] at er
 obtain⟨rfl,-,rfl⟩:=er
 obtain⟨sr,xr,yr,pr,⟨r0,r1,r2,r3⟩,hfr⟩:=hfx.get k hlt
 obtain⟨f,hff⟩:∃ f,f=fs[k]?.getD 0:=⟨_,rfl⟩
 rw[← hff] at hfr
 have hmem:f ∈ fs:=by rw[hff,List.getElem?_eq_getElem hkl];exact List.getElem_mem hkl
 have bA:But [] wr (wr.alloc (.cells #[.bool sr,.int .u64 xr,.int .u64 yr,.pointer pr] 27)):=(But.refl _ _).alloc _
 have BA:=af bA
 have x5:=az.new wr sr xr yr pr _ 27 hfr
 have X5:=af x5
 have SG:=af (fun W (h:But [] wr W)=>o5 _ f W (hfr.but h))
 have HFR:=af hfr
 have HFF:=af hff
 clear hfx hfr bA x5 hff
 by_cases hneg:f.num<0
 ·(
 have e1:ce=1:=by
  rw[ae HCE];unfold o9
  rw[if_neg (by have:=ae HN;omega),if_pos (List.any_eq_true.2 ⟨f,hmem,decide_eq_true hneg⟩)]
 subst e1
 rw[Int.sign_eq_neg_one_of_neg hneg] at SG
 go_wp2_with fail
 refine (ae SG _ (ae BA)).mono ?_
 rintro e w1 ⟨rfl,hb1⟩
 have B1:Hid (But [] w w1):=((ae HI).2.2.trans' (ae BA)).trans' hb1
 clear hb1
 go_wp2
 go_ret
 exact⟨rfl,ae B1⟩)
 ·(
 have hsg:0≤f.num.sign:=by
  rcases Int.lt_trichotomy f.num 0 with h | h | h
  ·omega
  ·rw[h];decide
  ·rw[Int.sign_eq_one_of_pos h];decide
 obtain⟨sg,hsgn⟩:∃ sg,sg=f.num.sign:=⟨_,rfl⟩
 rw[← hsgn] at SG hsg
 clear hsgn
 go_wp2_with fail
 refine (ae SG _ (ae BA)).mono ?_
 rintro e w1 ⟨rfl,hb1⟩
 have B01:=af ((ae BA).trans' hb1)
 have X51:=af ((ae X5).but hb1)
 have X31:=af ((ae HI).2.1.but (ae B01))
 have B1:=af ((ae HI).2.2.trans' (ae B01))
 have L5:g3<wr.heap.size:=(ae HI).2.1.lt
 clear hb1 SG X5 r0 r1 r2 r3
 generalize wr.heap.size=g5 at *
 obtain⟨⟨t3,a3,b3,q3,⟨c0,c1,c2,c3⟩,hf3⟩,z3⟩:=ae X31
 obtain⟨⟨t5,a5,b5,q5,⟨d0,d1,d2,d3⟩,hf5⟩,-⟩:=ae X51
 have ls:=zkr c fs lf k (by omega)
 have hkc:k*(c+1)≤1000*101:=Nat.mul_le_mul (by omega) (by omega)
 have AD:=af (zkx (zbt 200000 200000 (by omega) _ _ _ _ w1 hf3 hf5 (ls.mono (by omega)) ((lf f hmem).mono (by omega))))
 clear hf3 hf5 ls hkc X51
 go_wp2_with fail
 refine (ae AD).mono ?_
 rintro e w2 ⟨s7,x7,y7,p7,rfl,hf7,hb7⟩
 have stp:=zeq fs k hkl
 rw[← ae HFF] at stp
 rw[← stp] at hf7
 have l31:g3<w1.heap.size:=ai c0
 have z3':∀ j,w2.frozen? ⟨g3,j,none⟩=false:=fun j=>(hb7.frozen (p:=⟨g3,j,none⟩) l31 (by simp)).trans (z3 j)
 replace c0:=hb7.ag c0 (by simp)
 replace c1:=hb7.ag c1 (by simp)
 replace c2:=hb7.ag c2 (by simp)
 replace c3:=hb7.ag c3 (by simp)
 have D3:=af ((ae X31).but hb7)
 have B2:=af ((ae B1).trans' hb7)
 have HF7:=af hf7
 clear hf7 hb7 AD d0 d1 d2 d3 X31 B1 B01 z3 stp
 go_wp2
 have hP:=aw w2 g3 s7 x7 y7 p7
 refine⟨⟨k+1,by omega,by go_num,fun f' hf'=>?_,(ae D3).put (ae HF7),(ae B2).trans hP (fun x hx=>by simp at hx;subst hx;exact .inr (ae Q3))⟩,by simp[intOf];omega⟩
 rw[List.take_add_one,List.getElem?_eq_getElem hkl] at hf'
 rcases List.mem_append.1 hf' with h1 | h1
 ·have h2:=(ae HI).1 f' h1
  omega
 ·(
 simp at h1
 rw[h1]
 have:=ae HFF
 rw[List.getElem?_eq_getElem hkl,Option.getD_some] at this
 rw[← this]
 omega)))
 ·(
 obtain rfl:k=n:=by omega
 have hall:fs.take k=fs:=by rw[ae HN,List.take_length]
 obtain⟨hpos,⟨⟨t3,a3,b3,q3,c3,hf3⟩,z3⟩,hbw⟩:=ae HI
 rw[hall] at hpos hf3
 obtain⟨ws,wx,FW,CW⟩:=zat 1 (by omega) (by omega)
 obtain⟨r,hr⟩:∃ r,r=zbg ((zby fs).num*((((1:Int):Rat)).den:Int)) ((((1:Int):Rat)).num*((zby fs).den:Int)):=⟨_,rfl⟩
 have ls:=zkr c fs lf fs.length (Nat.le_refl _)
 rw[List.take_length] at ls
 have hkc:fs.length*(c+1)≤1000*101:=Nat.mul_le_mul (by have:=ae HN;omega) (by omega)
 have CM:=af (fun W (h:But [] wr W)=>zis _ _ (zby fs) ((1:Int):Rat) W (hf3.but h) (FW W) (ls.mono (by omega)) ((zgk 1 (by decide)).mono (by omega)) r hr)
 have hr0:(r != 0)=!decide (zby fs=1):=qdr _ _ r hr
 have HR0:=af hr0
 have HPOS:=af hpos
 have HBW:=af hbw
 have C3:=af c3
 have CWH:=af CW
 clear hall hpos hf3 z3 hbw hr ls hkc hr0 FW CW HI
 go_wp2
 refine zpi 11 _ _ wr t3 a3 b3 q3 ws wx r (by simp) g3 (by simp[Act.eval]) c3 (ae CWH) (fun w' hb=>ae CM w' hb) ?_
 intro w1 hb1
 have B1:=af ((ae HBW).trans' hb1)
 simp only[bi,List.foldl_cons,List.foldl_nil,Act.put,List.setIfInBounds_toArray,List.set_cons_zero,List.set_cons_succ]
 rw[ae HR0]
 have nn:¬ (fs.length<1∨201<fs.length):=by have:=ae HN;omega
 have nany:fs.any (fun f=>decide (f.num<0))=false:=by
  rw[List.any_eq_false]
  intro f hf
  simpa using ae HPOS f hf
 by_cases hone:zby fs=1
 ·(
 have e1:ce=0:=by rw[ae HCE];unfold o9;rw[if_neg nn,nany];simp[hone]
 subst e1
 rw[decide_eq_true hone]
 clear c3 hb1
 go_wp2
 go_ret
 exact⟨rfl,ae B1⟩)
 ·(
 have e1:ce=10:=by rw[ae HCE];unfold o9;rw[if_neg nn,nany];simp[hone]
 subst e1
 rw[decide_eq_false hone]
 clear c3 hb1
 go_wp2
 go_ret
 exact⟨rfl,ae B1⟩))))))
theorem zni (n m:Int) (h1:0≤n) (h2:n≤m) (h3:m≤1000) (w:World):Calls prog 73 #[.int .i64 n,.int .i64 m] w fun e w'=>e=.returned (.bool true)∧But [] w w':=by(
 go_enter func73,ntmps73
 go_wp2
 go_ret
 exact⟨rfl,But.refl _ _⟩)
theorem zlu (va:Value) (fs:List Rat) (c:Nat) (w:World) (ha:aq w va fs) (hn:fs.length≤41) (lf:∀ f ∈ fs,Len f c) (hc:c≤100) :
   Calls prog 74 #[va,.bool true] w fun e w'=>e=.returned (zht (o9 fs))∧But [] w w':=by(
 have CA:=af (zgm va fs c w ha (by omega) lf hc)
 obtain⟨q,cap,rfl,-,-⟩:=id ha
 obtain⟨ca,hca⟩:∃ ca,ca=o9 fs:=⟨_,rfl⟩
 rw[← hca] at CA ⊢
 clear ha hca
 generalize fs.length=n at *
 go_enter func74,ntmps74
 go_wp2_with fail
 refine (ae CA).mono ?_
 rintro e w1 ⟨rfl,hb1⟩
 have B1:=af hb1
 clear hb1 CA
 by_cases h0:ca=0
 ·(
 subst h0
 rw[show zht 0=.nilIface from rfl]
 go_wp2
 go_ret
 exact⟨rfl,ae B1⟩)
 ·(
 obtain⟨ev,hev⟩:∃ ev,ev=zht ca:=⟨_,rfl⟩
 have hev2:ev=.iface 33 (.int .i64 ca):=by rw[hev];unfold zht;rw[if_neg h0]
 rw[← hev,hev2]
 have HEV:=af (hev2.symm.trans hev)
 clear hev hev2
 go_wp2
 go_ret
 exact⟨congrArg _ (ae HEV),ae B1⟩))
def exL (fs:List Rat) (inc:Nat):List Rat:=(List.range (max fs.length (inc+1))).map (exF fs inc (yg 1 fs))
def sfQ (L:List Rat) (o u:Rat):Bool:=decide ((dw (fun t=>L[t]?.getD 0) o u ((iw L.length 0).map (·.1))).1≤0)
theorem zpc (fs:List Rat) (inc:Nat):(exL fs inc).length=max fs.length (inc+1):=by unfold exL;simp
theorem zxo (v vo vu:Value) (L:List Rat) (o u:Rat) (w:World) (hv:aq w v L) (hn0:0<L.length) (hn1:L.length≤50) (ho:am w vo o) (hu:am w vu u) (lf:∀ f ∈ L,Len f 100) (lo:Len o 100) (lu:Len u 100) :
   Calls prog 87 #[v,vo,vu] w fun e w'=>e=.returned (.bool (sfQ L o u))∧But [] w w':=by(
 rcases hv.open with ⟨e,-⟩|⟨-,b,off,cap,rfl,-,-⟩
 ·rw[e] at hn0;simp at hn0
 ·exact qau b off cap L.length L 100 vo vu o u w hv rfl hn0 hn1 ho hu lf (Nat.le_refl _) lo lu)
theorem zvx (f:Rat):f*((f.den:Int):Rat)=((f.num:Int):Rat):=by(
 have h0:((f.den:Int):Rat)≠0:=fun h=>by
  have h2:((f.den:Int):Rat)=((0:Int):Rat):=h
  have:=Rat.intCast_inj.1 h2
  have:=den_pos f
  omega
 have h2:=Rat.div_mul_cancel (a:=((f.num:Int):Rat)) h0
 rw[← Rat.divInt_eq_div,Rat.num_divInt_den] at h2
 exact h2)
theorem zsk:∀ (fs:List Rat) (U:Nat),∃ k,yg U fs=U*k
 | [],U=>⟨1,by rw[Nat.mul_one];rfl⟩
 | f::fs,U=>by
  obtain⟨k,hk⟩:=zsk fs (ku U f)
  exact⟨(f*(((U:Nat):Int):Rat)).den*k,by
   show yg (ku U f) fs=_
   rw[hk]
   unfold ku
   rw[Nat.mul_assoc]⟩
theorem znp:∀ (fs:List Rat) (U:Nat) (f:Rat),f ∈ fs→∃ z:Int,f*(((yg U fs:Nat):Int):Rat)=((z:Int):Rat)
 | [],_,f,h=>by simp at h
 | g::fs,U,f,h=>by
  rcases List.mem_cons.1 h with rfl | h2
  ·obtain⟨k,hk⟩:=zsk fs (ku U f)
   refine⟨(f*(((U:Nat):Int):Rat)).num*(k:Int),?_⟩
   show f*(((yg (ku U f) fs:Nat):Int):Rat)=_
   have e:=zvx (f*(((U:Nat):Int):Rat))
   rw[hk]
   unfold ku
   rw[Int.natCast_mul,Int.natCast_mul,Rat.intCast_mul,Rat.intCast_mul,Rat.intCast_mul,← e]
   grind
  ·exact znp fs (ku U g) f h2
theorem zwr:∀ (fs:List Rat) (U:Nat),0<U→0<yg U fs
 | [],_,h=>h
 | f::fs,U,h=>zwr fs (ku U f) (Nat.mul_pos h (den_pos _))
theorem zej {fs:List Rat} {k:Nat} (h:fs.length≤k):atR fs k=0:=by
 unfold atR
 rw[List.getElem?_eq_none (by omega)];rfl
theorem zww {fs:List Rat} (h:∀ f ∈ fs,0≤f) (k:Nat):0≤atR fs k:=by(
 by_cases hk:k<fs.length
 ·unfold atR
  rw[List.getElem?_eq_getElem hk]
  exact h _ (List.getElem_mem hk)
 ·rw[zej (by omega)];decide)
theorem qbe {f:Rat} {x y:Int} (h:f.num*y=x*(f.den:Int)):f*((y:Int):Rat)=((x:Int):Rat):=by(
 have e:=zvx f
 have hd:(0:Rat)<((f.den:Int):Rat):=Rat.intCast_pos.2 (by have:=den_pos f;omega)
 have h2:((f.num:Int):Rat)*((y:Int):Rat)=((x:Int):Rat)*((f.den:Int):Rat):=by
  rw[← Rat.intCast_mul,← Rat.intCast_mul,h]
 rw[← e] at h2
 have h3:f*((y:Int):Rat)*((f.den:Int):Rat)=((x:Int):Rat)*((f.den:Int):Rat):=by rw[← h2];grind
 exact Rat.le_antisymm (Rat.le_of_mul_le_mul_right (by rw[h3];exact Rat.le_refl) hd) (Rat.le_of_mul_le_mul_right (by rw[h3];exact Rat.le_refl) hd))
theorem zlf {fs:List Rat} (h:o9 fs=0):0<fs.length∧fs.length≤201∧(∀ f ∈ fs,0≤f)∧zby fs=1:=by(
 unfold o9 at h
 by_cases h1:fs.length<1∨201<fs.length
 ·rw[if_pos h1] at h;simp at h
 ·(
 rw[if_neg h1] at h
 by_cases h2:fs.any (fun f=>decide (f.num<0))=true
 ·rw[if_pos h2] at h;simp at h
 ·(
 rw[if_neg h2] at h
 by_cases h3:zby fs=1
 ·(
 refine⟨by omega,by omega,fun f hf=>?_,h3⟩
 have h4:fs.any (fun f=>decide (f.num<0))=false:=by simpa using h2
 rw[List.any_eq_false] at h4
 have:=h4 f hf
 simp at this
 exact this)
 ·rw[if_neg h3] at h;simp at h)))
theorem zvn (fs:List Rat):∀ k,k≤fs.length→zby (fs.take k)=sgR (fun j=>fs[j]?.getD 0) k
 | 0,_=>rfl
 | k+1,h=>by
  rw[zeq fs k (by omega),zvn fs k (by omega)]
  rfl
theorem qal (fs:List Rat):zby fs=sgR (fun j=>fs[j]?.getD 0) fs.length:=by(
 have h:=zvn fs fs.length (Nat.le_refl _)
 rw[List.take_length] at h
 exact h)
def sgN (f:Nat→Nat):Nat→Nat
 | 0=>0
 | k+1=>sgN f k+f k
theorem zvs (f:Nat→Nat) (g:Nat→Rat):∀ n,(∀ k,k<n→(((f k:Nat):Int):Rat)=g k)→(((sgN f n:Nat):Int):Rat)=sgR g n
 | 0,_=>rfl
 | n+1,h=>by
  have ih:=zvs f g n (fun k hk=>h k (by omega))
  have h1:=h n (by omega)
  show (((sgN f n+f n:Nat):Int):Rat)=sgR g n+g n
  rw[← ih,← h1,Int.natCast_add,Rat.intCast_add]
theorem zrc (U:Nat):∀ t,zn (((U:Nat):Int):Rat) t=(((U^t:Nat):Int):Rat)
 | 0=>by rw[Nat.pow_zero];rfl
 | t+1=>by
  show zn (((U:Nat):Int):Rat) t*(((U:Nat):Int):Rat)=_
  rw[zrc U t,Nat.pow_succ,Int.natCast_mul,Rat.intCast_mul]
theorem zwh {a b:Nat} (h:(((a:Nat):Int):Rat)=(((b:Nat):Int):Rat)):a=b:=by
 have:=Rat.intCast_inj.1 h
 omega
theorem qfh (p:Nat→Rat) (a:Nat→Nat) (n U:Nat) (h:∀ x,(((a x:Nat):Int):Rat)=p x*(((U:Nat):Int):Rat)) (h1:sgR p n=1):sgN a n=U:=by(
 refine zwh ?_
 rw[zvs a (fun x=>(((U:Nat):Int):Rat)*p x) n (fun k _=>by rw[h k];grind),zji,h1]
 grind)
theorem zyu (p F:Nat→Rat) (n c z:Nat) (U r:Rat) (_hU:0<U) (hz:n≤z) (hc:c<z) (hp:∀ k,n≤k→p k=0) (hF:∀ j,j<z→F j=p j*U-(if j=c then U else 0)) :
   sgR (fun j=>F j*zn r j) z=U*(sgR (fun j=>p j*zn r j) n-zn r c):=by(
 rw[zcg _ (fun j=>U*(p j*zn r j)-(if j=c then U*zn r j else 0)) z (fun j hj=>by
  rw[hF j hj]
  by_cases e:j=c
  ·rw[if_pos e,if_pos e];grind
  ·rw[if_neg e,if_neg e];grind),zvq,zji,zof c (fun j=>U*zn r j),if_pos hc]
 have h2:=zqf (fun j=>p j*zn r j) n (z-n) (fun k hk=>by rw[hp k hk];grind)
 rw[show n+(z-n)=z from by omega] at h2
 rw[h2]
 grind)
theorem zuh (p F:Nat→Rat) (n c z:Nat) (U r o u:Rat) (hU:0<U) (hu:0<u) (ho:o=r*u) (hz:n≤z) (hc:c<z) (hp:∀ k,n≤k→p k=0) (hF:∀ j,j<z→F j=p j*U-(if j=c then U else 0)) :
   (dw F o u (dnL z z)).1≤0↔sgR (fun j=>p j*zn r j) n≤zn r c:=by(
 rw[qdd F o u r z (by omega) ho,zyu p F n c z U r hU hz hc hp hF]
 have hq:=zrb u hu (z-1)
 generalize zn u (z-1)=q at *
 generalize sgR (fun j=>p j*zn r j) n=A at *
 generalize zn r c=C at *
 have hqU:0<q*U:=Rat.mul_pos hq hU
 constructor
 ·intro h
  refine Rat.not_lt.1 (fun hlt=>?_)
  have:=Rat.mul_pos hqU (show 0<A-C by grind)
  grind
 ·intro h
  have:=Rat.mul_nonneg (show 0≤q*U by grind) (show 0≤C-A by grind)
  grind)
def zpx (fs:List Rat) (k:Nat):Nat:=(atR fs k*(((yg 1 fs:Nat):Int):Rat)).num.toNat
theorem znx {fs:List Rat} (h:∀ f ∈ fs,0≤f) (k:Nat):(((zpx fs k:Nat):Int):Rat)=atR fs k*(((yg 1 fs:Nat):Int):Rat):=by(
 unfold zpx
 have hU:(0:Rat)≤(((yg 1 fs:Nat):Int):Rat):=by
  have:(0:Int)≤(yg 1 fs:Int):=by omega
  exact Rat.intCast_nonneg.2 this
 have h0:=Rat.mul_nonneg (zww h k) hU
 by_cases hk:k<fs.length
 ·(
 obtain⟨z,hz⟩:=znp fs 1 (atR fs k) (by
  unfold atR
  rw[List.getElem?_eq_getElem hk]
  exact List.getElem_mem hk)
 rw[hz] at h0 ⊢
 rw[Rat.num_intCast]
 have:=Rat.intCast_nonneg.1 h0
 rw[Int.toNat_of_nonneg this])
 ·rw[zej (by omega),Rat.zero_mul];rfl)
theorem znn (n:Nat):∀ d,d≤n→(iw n (n-d)).map (fun z:Fin n=>z.1)=dnL n d
 | 0,_=>by
  rw[Nat.sub_zero,zlb];rfl
 | d+1,h=>by
  rw[ziu n (n-(d+1)) (by omega),List.map_append,show n-(d+1)+1=n-d from by omega,znn n d (by omega)]
  rfl
theorem qdf (fs:List Rat) (inc j:Nat) (hj:j<max fs.length (inc+1)):(exL fs inc)[j]?.getD 0=atR fs j*(((yg 1 fs:Nat):Int):Rat)-(if j=inc then (((yg 1 fs:Nat):Int):Rat) else 0):=by(
 unfold exL
 rw[List.getElem?_map,List.getElem?_range hj]
 show exF fs inc (yg 1 fs) j=_
 unfold exF
 by_cases h:j<fs.length
 ·rw[if_pos h];rfl
 ·rw[if_neg h,zej (by omega)];grind)
theorem qar (fs:List Rat) (inc:Nat) (o u r:Rat) (hu:0<u) (ho:o=r*u):sfQ (exL fs inc) o u=decide (sgR (fun j=>atR fs j*zn r j) fs.length≤zn r inc):=by(
 have hU:(0:Rat)<(((yg 1 fs:Nat):Int):Rat):=by
  have h:=zwr fs 1 (by omega)
  have:(0:Int)<(yg 1 fs:Int):=by omega
  exact Rat.intCast_pos.2 this
 have hz:=zpc fs inc
 have ed:(iw (exL fs inc).length 0).map (fun z:Fin (exL fs inc).length=>z.1)=dnL (exL fs inc).length (exL fs inc).length:=by
  have:=znn (exL fs inc).length (exL fs inc).length (Nat.le_refl _)
  rw[Nat.sub_self] at this
  exact this
 unfold sfQ
 rw[ed,hz]
 exact decide_eq_decide.2 (zuh (atR fs) (fun t=>(exL fs inc)[t]?.getD 0) fs.length inc (max fs.length (inc+1)) _ r o u hU hu ho (Nat.le_max_left _ _) (by omega) (fun k hk=>zej hk) (fun j hj=>qdf fs inc j hj)))
theorem zpw {fs:List Rat} (h:o9 fs=0):sgR (atR fs) fs.length=1∧sgN (zpx fs) fs.length=yg 1 fs:=by(
 obtain⟨-,-,hp,hs⟩:=zlf h
 rw[qal] at hs
 exact⟨hs,qfh (atR fs) (zpx fs) fs.length _ (znx hp) hs⟩)
theorem zzh {fs:List Rat} (inc L:Nat) (h:o9 fs=0) (hL:(wd 18446744073709551616 (yg 1 fs)).length≤L) (h1:1≤L) (f:Rat) (hf:f ∈ exL fs inc):Len f (2*L+1):=by(
 obtain⟨-,-,hp,-⟩:=zlf h
 obtain⟨-,hs⟩:=zpw h
 obtain⟨j,hj,rfl⟩:=List.mem_iff_getElem.1 hf
 have hj2:j<max fs.length (inc+1):=by rw[← zpc fs inc];exact hj
 have e:=qdf fs inc j hj2
 rw[List.getElem?_eq_getElem hj,Option.getD_some] at e
 rw[e,← znx hp j]
 have l1:Len (((zpx fs j:Nat):Int):Rat) L:=by
  refine zal _ (yg 1 fs) ?_ hL h1
  by_cases hk:j<fs.length
  ·have:∀ n,j<n→zpx fs j≤sgN (zpx fs) n:=fun n=>by
    induction n with
    | zero=>intro h;omega
    | succ n ih =>
     intro h
     by_cases e:j=n
     ·subst e;exact Nat.le_add_left _ _
     ·exact Nat.le_trans (ih (by omega)) (Nat.le_add_right _ _)
   rw[← hs]
   exact this _ hk
  ·have:=znx hp j
   rw[zej (by omega),Rat.zero_mul] at this
   have h0:(((zpx fs j:Nat):Int):Rat)=(((0:Nat):Int):Rat):=this
   rw[zwh h0]
   exact Nat.zero_le _
 have l2:Len (if j=inc then (((yg 1 fs:Nat):Int):Rat) else 0) L:=by
  by_cases hi:j=inc
  ·rw[if_pos hi];exact zal _ _ (Nat.le_refl _) hL h1
  ·rw[if_neg hi];exact zgj _ h1
 exact qgb l1 l2 _ (by omega))
theorem zgy (a b:Rat) (h1:1≤a) (h2:a≤b):∀ m,(b-1)*zn a m≤(b-a)+(a-1)*zn b m∧1≤zn b m
 | 0=>by
  show (b-1)*1≤(b-a)+(a-1)*1∧(1:Rat)≤1
  exact⟨by grind,by grind⟩
 | m+1=>by
  obtain⟨ih,hb⟩:=zgy a b h1 h2 m
  show (b-1)*(zn a m*a)≤(b-a)+(a-1)*(zn b m*b)∧1≤zn b m*b
  have hb1:0≤b-1:=by grind
  have ha1:0≤a-1:=by grind
  have hba:0≤b-a:=by grind
  have hp:0≤zn b m-1:=by grind
  have k1:=Rat.mul_le_mul_of_nonneg_right ih (show (0:Rat)≤a by grind)
  have k2:=Rat.mul_nonneg (Rat.mul_nonneg ha1 hba) hp
  have k3:=Rat.mul_nonneg hp (show (0:Rat)≤b by grind)
  exact⟨by grind,by grind⟩
theorem znr (a b:Rat) (h1:1≤a) (h2:a≤b):∀ m,(b-1)*zn b m≤(b-a)*(zn a m*zn b m)+(a-1)*zn a m∧1≤zn a m∧1≤zn b m
 | 0=>by
  show (b-1)*1≤(b-a)*(1*1)+(a-1)*1∧(1:Rat)≤1∧(1:Rat)≤1
  exact⟨by grind,by grind,by grind⟩
 | m+1=>by
  obtain⟨ih,ha,hb⟩:=znr a b h1 h2 m
  show (b-1)*(zn b m*b)≤(b-a)*(zn a m*a*(zn b m*b))+(a-1)*(zn a m*a)∧1≤zn a m*a∧1≤zn b m*b
  have ha1:0≤a-1:=by grind
  have hba:0≤b-a:=by grind
  have hb0:(0:Rat)≤b:=by grind
  have ha0:(0:Rat)≤a:=by grind
  have hpa:0≤zn a m:=by grind
  have q1:=Rat.mul_nonneg (show (0:Rat)≤zn b m-1 by grind) hb0
  have q2:=Rat.mul_nonneg (show (0:Rat)≤zn a m-1 by grind) ha0
  have k1:=Rat.mul_le_mul_of_nonneg_right ih hb0
  have k2:=Rat.mul_nonneg (Rat.mul_nonneg (Rat.mul_nonneg ha1 hba) hpa) (show (0:Rat)≤zn b m*b-1 by grind)
  exact⟨by grind,by grind,by grind⟩
theorem qkb (a b:Rat) (h1:1≤a) (h2:a≤b) (c j:Nat):(b-1)*(zn a j*zn b c)≤(b-a)*(zn a c*zn b c)+(a-1)*(zn b j*zn a c):=by(
 have pos:∀ x:Rat,1≤x→∀ n,0≤zn x n:=fun x hx n=>by
  have:=(zgy x x hx (by grind) n).2
  grind
 rcases Nat.le_total c j with h | h
 ·obtain⟨m,rfl⟩:∃ m,j=c+m:=⟨j-c,by omega⟩
  rw[zcj,zcj]
  have:=Rat.mul_le_mul_of_nonneg_right (zgy a b h1 h2 m).1 (Rat.mul_nonneg (pos a h1 c) (pos b (by grind) c))
  grind
 ·obtain⟨m,rfl⟩:∃ m,c=j+m:=⟨c-j,by omega⟩
  rw[zcj,zcj]
  have:=Rat.mul_le_mul_of_nonneg_right (znr a b h1 h2 m).1 (Rat.mul_nonneg (pos a h1 j) (pos b (by grind) j))
  grind)
theorem zsl (p:Nat→Rat) (hp:∀ k,0≤p k) (a b:Rat) (h1:1≤a) (h2:a≤b) (c:Nat):∀ n,(b-1)*(sgR (fun j=>p j*zn a j) n*zn b c)≤(b-a)*(zn a c*zn b c)*sgR p n+(a-1)*(sgR (fun j=>p j*zn b j) n*zn a c)
 | 0=>by
  show (b-1)*(0*zn b c)≤(b-a)*(zn a c*zn b c)*0+(a-1)*(0*zn a c)
  grind
 | n+1=>by
  have ih:=zsl p hp a b h1 h2 c n
  show (b-1)*((sgR (fun j=>p j*zn a j) n+p n*zn a n)*zn b c)≤(b-a)*(zn a c*zn b c)*(sgR p n+p n)+(a-1)*((sgR (fun j=>p j*zn b j) n+p n*zn b n)*zn a c)
  have:=Rat.mul_le_mul_of_nonneg_right (qkb a b h1 h2 c n) (hp n)
  grind
theorem ztg (p:Nat→Rat) (hp:∀ k,0≤p k) (n c:Nat) (hs:sgR p n=1) (a b:Rat) (h1:1≤a) (h2:a≤b) (h:sgR (fun j=>p j*zn b j) n≤zn b c):sgR (fun j=>p j*zn a j) n≤zn a c:=by(
 have k:=zsl p hp a b h1 h2 c n
 have pa:=(zgy a a h1 (by grind) c).2
 have pb:=(zgy b b (by grind) (by grind) c).2
 rw[hs] at k
 have k2:=Rat.mul_le_mul_of_nonneg_left (Rat.mul_le_mul_of_nonneg_right h (show (0:Rat)≤zn a c by grind)) (show (0:Rat)≤a-1 by grind)
 by_cases hb:b=1
 ·have ha:a=b:=by grind
  rw[ha];exact h
 ·refine Rat.le_of_mul_le_mul_right (c:=(b-1)*zn b c) ?_ (Rat.mul_pos (by grind) (by grind))
  grind)
theorem ztf (N g1 g2:Nat) (hN:N≤1000000) (p:Nat→Bool) (w:World)
   (OF:∀ k,k<N→∀ W,But [] w W→Calls prog 92 #[.int .i64 (k:Int),.pointer (some ⟨g1,0,none⟩),.pointer (some ⟨g2,0,none⟩)] W fun e w'=>e=.returned (.bool (p k))∧But [] W w') :
   Calls prog 91 #[.int .i64 (N:Int),.func (.func 92) #[] #[.pointer (some ⟨g1,0,none⟩),.pointer (some ⟨g2,0,none⟩)]] w fun e w'=>∃ i:Nat,e=.returned (.int .i64 (i:Int))∧i≤N∧(i=0∨p (i-1)=false)∧(i=N∨p i=true)∧But [] w w':=by(
 have HOF:=af OF
 clear OF
 go_enter func91,ntmps91
 go_wp2
 go_loopw [5,6] (fun x y wr=>∃ i j:Nat,x=.int .i64 (i:Int)∧y=.int .i64 (j:Int)∧i≤j∧j≤N∧Hid (i=0∨p (i-1)=false)∧Hid (j=N∨p j=true)∧Hid (But [] w wr)) (fun x y _=>(intOf y-intOf x).toNat)
 case atStart=>exact⟨0,N,rfl,rfl,Nat.zero_le _,Nat.le_refl _,.inl rfl,.inl rfl,But.refl _ _⟩
 case round =>(
 obtain⟨i,j,rfl,rfl,hij,hj,HP,HR,HB⟩:=hrel
 rename World=>wr
 by_cases hlt:i<j
 ·(
 go_wp2_with fail
 obtain⟨md,hh⟩:∃ md,md=(i+j)/2:=⟨_,rfl⟩
 have e2:((i:Int)+(j:Int))/2=(md:Int):=by omega
 have h3:i≤md:=by omega
 have h4:md<j:=by omega
 rw[e2]
 refine (ae HOF md (by omega) wr (ae HB)).mono ?_
 rintro e w1 ⟨rfl,hb1⟩
 have B1:=af ((ae HB).trans' hb1)
 clear hb1 HB e2 hh HOF
 cases hp:p md with
 | true =>
  have HR2:Hid (md=N∨p md=true):=.inr hp
  clear hp HR
  go_wp2
  exact⟨⟨i,md,rfl,rfl,h3,by omega,HP,HR2,B1⟩,by simp[intOf];omega⟩
 | false =>
  have HP2:Hid (md+1=0∨p (md+1-1)=false):=.inr hp
  clear hp HP
  go_wp2
  exact⟨⟨md+1,j,by go_num,rfl,by omega,hj,HP2,HR,B1⟩,by simp[intOf];omega⟩)
 ·obtain rfl:i=j:=by omega
  go_wp2
  go_ret
  exact⟨i,rfl,hj,ae HP,ae HR,ae HB⟩))
theorem zzz (g1 g2 n k:Nat) (vs:Value) (L:List Rat) (w:World) (c1:w.cell? ⟨g1,0,none⟩=some vs) (c2:w.cell? ⟨g2,0,none⟩=some (.int .i64 (n:Int))) (hv:aq w vs L) (hn0:0<L.length) (hn1:L.length≤50) (lf:∀ f ∈ L,Len f 100) (hn:n≤100000) (hk:k≤600000) :
   Calls prog 92 #[.int .i64 (k:Int),.pointer (some ⟨g1,0,none⟩),.pointer (some ⟨g2,0,none⟩)] w fun e w'=>e=.returned (.bool (!(sfQ L ((((n+1+k:Nat):Int):Int):Rat) (((n:Nat):Int):Rat))))∧But [] w w':=by(
 obtain⟨ws1,wx1,FW1,CW1⟩:=zat ((n+1+k:Nat):Int) (by omega) (by omega)
 obtain⟨ws2,wx2,FW2,CW2⟩:=zat ((n:Nat):Int) (by omega) (by omega)
 have SA:=af (fun W (h:But [] w W)=>zxo vs _ _ L _ _ W (hv.but h) hn0 hn1 (FW1 W) (FW2 W) lf ((zgk _ (by omega)).mono (by omega)) ((zgk _ (by omega)).mono (by omega)))
 generalize sfQ L ((((n+1+k:Nat):Int):Int):Rat) (((n:Nat):Int):Rat)=sq at *
 have C1:=af c1
 have C2:=af c2
 have W1:=af CW1
 have W2:=af CW2
 clear c1 c2 hv CW1 CW2 FW1 FW2 lf hn0 hn1
 go_enter func92,ntmps92
 go_wp2_with fail
 refine zpk 1 _ _ w vs n k ws1 wx1 ws2 wx2 sq (by simp) g1 g2 (by simp[Act.eval]) (by simp[Act.eval]) (by simp[Act.eval]) hn hk (ae C1) (ae C2) (ae W1) (ae W2) (ae SA) ?_
 intro w1 hb1
 simp only[bi,List.foldl_cons,List.foldl_nil,Act.put,List.setIfInBounds_toArray,List.set_cons_zero,List.set_cons_succ]
 have B1:=af hb1
 clear hb1
 go_wp2
 go_ret
 exact⟨rfl,ae B1⟩)
theorem zqn (v:Value) (fs:List Rat) (inc bits un:Nat) (w:World) (m:Int) (c:Nat) (hv:aq w v fs) (hl:fs.length≤41) (hi:inc≤20) (hbt:bits≤12) (hun:un=2^bits) (lf:∀ f ∈ fs,Len f c) (hc:c≤100) (hk:o9 fs=0) (lx:∀ f ∈ exL fs inc,Len f 100) (htab:Lib.TabIs prog w "internal/strconv.uint64pow10" .u64 Lib.pow10Tab) (hm:w.cell? ⟨4,0,none⟩=some (.int .i64 m)) :
   Calls prog 25 #[.int .i64 (inc:Int),v,.int .i64 (bits:Int)] w fun e w'=>∃ (i:Nat) (f:Rat) (s:Bool) (x y:Int) (p:Option Addr),e=.returned (.tuple #[.agg #[.bool s,.int .u64 x,.int .u64 y,.pointer p],.nilIface])∧am w' (.agg #[.bool s,.int .u64 x,.int .u64 y,.pointer p]) f∧Len f 1∧f.num*(un:Int)=((un+i:Nat):Int)*f.den∧i≤63*un∧(i=0∨sfQ (exL fs inc) (((un+1+(i-1):Nat):Int):Rat) (((un:Nat):Int):Rat)=true)∧(i=63*un∨sfQ (exL fs inc) (((un+1+i:Nat):Int):Rat) (((un:Nat):Int):Rat)=false)∧But [] w w':=by(
 have hlen:=zpc fs inc
 have hu1:1≤un:=by rw[hun];exact Nat.one_le_two_pow
 have hu2:un≤4096:=by rw[hun];exact Nat.pow_le_pow_right (by omega) hbt
 have F0:=af (fun W=>zni (inc:Int) 20 (by omega) (by omega) (by omega) W)
 have F1:=af (fun W=>zni (bits:Int) 12 (by omega) (by omega) (by omega) W)
 have CK:=af (fun W (h:But [] w W)=>zlu v fs c W (hv.but h) hl lf hc)
 rw[hk] at CK
 have EX:=af (fun W (h:But [] w W)=>(zun v fs inc W m c (hv.but h) (by omega) hi lf hc (TabIs.but htab h) (h.ag hm (by simp))).mono (fun e w' (h:∃ g,_∧_∧_∧_∧_)=>show ∃ v',e=.returned v'∧zdn (max fs.length (inc+1)) (exF fs inc (yg 1 fs)) w' v'∧But [] W w' from by
  obtain⟨g,e1,h1,h2,h3,h4⟩:=h
  exact⟨_,e1,⟨g,rfl,h1,h3⟩,h4⟩))
 obtain⟨L,hL⟩:∃ L,L=exL fs inc:=⟨_,rfl⟩
 obtain⟨z,hz⟩:∃ z,z=max fs.length (inc+1):=⟨_,rfl⟩
 obtain⟨F,hF⟩:∃ F,F=exF fs inc (yg 1 fs):=⟨_,rfl⟩
 have hLF:Hid (L=(List.range z).map F):=by show _=_;rw[hL,hz,hF];rfl
 rw[← hz,← hF] at EX
 rw[← hL] at lx hlen ⊢
 have hz0:0<z:=by omega
 have LX:=af lx
 have hl1:0<L.length∧L.length≤50:=by omega
 have HL1:=af hl1
 obtain⟨q,cap,rfl,hcap,-⟩:=id hv
 have x2:=az.new w false 0 0 none 0 27 (zaj _)
 have bA:But [] w (w.alloc (.cells #[.bool false,.int .u64 0,.int .u64 0,.pointer none] 27)):=(But.refl _ _).alloc _
 have X2:=af x2
 have BA:=af bA
 generalize fs.length=n at *
 have Q2:Hid (w.heap.size≤w.heap.size):=Nat.le_refl _
 have HUN:=af hun
 clear x2 bA hv lf hcap hk hL hz hF lx hlen hl1 htab hm hun
 go_enter func25,ntmps25
 go_wp2_with fail
 refine (ae F0 _).mono ?_
 rintro e w1 ⟨rfl,hb1⟩
 have B1:=af ((ae BA).trans' hb1)
 have X21:=af ((ae X2).but hb1)
 clear hb1 X2 BA F0
 go_wp2_with fail
 refine (ae CK _ (ae B1)).mono ?_
 rintro e w2 ⟨rfl,hb2⟩
 have B2:=af ((ae B1).trans' hb2)
 have X22:=af ((ae X21).but hb2)
 clear hb2 X21 B1 CK
 rw[show zht 0=.nilIface from rfl]
 generalize hg2:w.heap.size=g6 at *
 go_wp2_with fail
 refine (ae F1 _).mono ?_
 rintro e w3 ⟨rfl,hb3⟩
 have B3:=af ((ae B2).trans' hb3)
 have X23:=af ((ae X22).but hb3)
 clear hb3 X22 B2 F1
 go_wp2_with fail
 refine zpl 6 _ _ w3 w3.heap.size (inc:Int) (.slice q n cap) z F bits un (by simp) rfl hz0 hbt (ae HUN) (by simp[Act.eval]) (by simp[Act.eval]) (by simp[Act.eval]) (fun w' hb=>ae EX w' ((ae B3).trans' hb)) ?_
 rintro w4 b9 b10 v2 x9 v7 ⟨hb4,hb9,hb10,k9,k10,hrow⟩
 simp only[bi,List.foldl_cons,List.foldl_nil,Act.put,List.setIfInBounds_toArray,List.set_cons_zero,List.set_cons_succ]
 have B4:=af ((ae B3).trans' hb4)
 have X24:=af ((ae X23).but hb4)
 have HFR:Hid (aq w4 x9 L):=by
  show aq w4 x9 L
  obtain⟨g,rfl,h1,-⟩:=hrow
  rw[ae hLF]
  exact h1.zrz
 have g6l:g6<w3.heap.size:=(ae X23).lt
 have K9:=af k9
 have K10:=af k10
 clear hb4 X23 B3 EX hrow hLF k9
 go_wp2_with fail
 clear k10
 rw[show (63:Int)*(un:Int)=((63*un:Nat):Int) from by omega]
 refine (ztf (63*un) b9 b10 (by omega) (fun k=>!(sfQ L ((((un+1+k:Nat):Int):Int):Rat) (((un:Nat):Int):Rat))) w4 (fun k hk W hb=>zzz b9 b10 un k x9 L W (hb.ag (ae K9) (by simp)) (hb.ag (ae K10) (by simp)) ((ae HFR).but hb) (ae HL1).1 (ae HL1).2 (ae LX) (by omega) (by omega))).mono ?_
 rintro e w5 ⟨i,rfl,hi63,hstop,hnext,hb5⟩
 have B5:=af ((ae B4).trans' hb5)
 have X25:=af ((ae X24).but hb5)
 have k10:=hb5.ag (ae K10) (by simp)
 have ST:Hid (i=0∨sfQ L (((un+1+(i-1):Nat):Int):Rat) (((un:Nat):Int):Rat)=true):=hstop.imp id (fun h=>by simpa using h)
 have SN:Hid (i=63*un∨sfQ L (((un+1+i:Nat):Int):Rat) (((un:Nat):Int):Rat)=false):=hnext.imp id (fun h=>by simpa using h)
 clear hb5 hstop hnext B4 X24 HFR K9 K10 LX HL1
 obtain⟨fo,ro,po,qo,LO,RO,FO,CO⟩:=zhs ((un+i:Nat):Int) (un:Int) (by omega) (by omega) (by omega) (by omega) (by omega)
 have HRO:=af RO
 have HFO:=af FO
 have HCO:=af CO
 have HLO:=af LO
 clear RO FO CO LO
 go_wp2_with fail
 rw[show (un:Int)+(i:Int)=((un+i:Nat):Int) from by omega]
 refine (ae HCO _).mono ?_
 rintro e w6 ⟨rfl,hb6⟩
 have B6:=af ((ae B5).trans' hb6)
 have X26:=af ((ae X25).but hb6)
 clear hb6 B5 X25 k10 HCO
 obtain⟨⟨t2,a2,b2,q2,⟨c0,c1,c2,c3⟩,-⟩,z2⟩:=ae X26
 have P2:Hid (P4 w6 g6 t2 a2 b2 q2):=⟨c0,c1,c2,c3⟩
 go_wp2
 have hP:=aw w6 g6 ro po qo none
 obtain⟨m0,m1,m2,m3⟩:=zeu w6 g6 ro po qo none (ae P2)
 have hF:But [] w (gm w6 g6 ro po qo none):=(ae B6).trans hP (fun x hx=>by simp at hx;subst hx;exact .inr (by omega))
 change bodyPost _ _ _ _ _ (gm w6 g6 ro po qo none)
 generalize gm w6 g6 ro po qo none=F' at *
 exact bodyPost_ret (v:=.tuple #[.agg #[.bool ro,.int .u64 po,.int .u64 qo,.pointer none],.nilIface]) (by simp[results,results25,go_sem,m0,m1,m2,m3]) rfl ⟨i,fo,ro,po,qo,none,rfl,ae HFO _,ae HLO,ae HRO,hi63,ae ST,ae SN,hF⟩)
end Go.Proofs.YtagmkkiagjmimaaGreatDoor
