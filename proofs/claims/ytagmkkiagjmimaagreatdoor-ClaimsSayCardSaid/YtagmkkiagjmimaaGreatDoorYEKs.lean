/- What the rows of the laws of package cla -/
import Derived.Test.YtagmkkiagjmimaaGreatDoorRows
import Derived.Test.YtagmkkiagjmimaaGreatDoorTie
import Derived.Test.YtagmkkiagjmimaaGreatDoorCards
import Derived.Lib.SmallJoins
import Derived.ProofKit
import Derived.OpenShut
import Derived.LaidMore
import Derived.LaidHandle
import Derived.Stop.Joined
import Derived.SevenTiedAt
import Derived.Deep.SlicePairs
import Derived.Carry
import Derived.Shelf.Vars
import Derived.Test.YtagmkkiagjmimaaGreatDoorYKA
import Derived.Test.YtagmkkiagjmimaaGreatDoorYKYc
namespace Go.Proofs.YtagmkkiagjmimaaGreatDoor
open Go.Proofs.Tryz
open Go.ChangeShapes Go.WideShapes Go.ChangeAt Go.RowKit Go.Joins
set_option maxHeartbeats 16000000
set_option maxRecDepth 100000
set_option linter.unusedVariables false
theorem own:ownKnob prog.godebug=none:=by kernel_rfl
theorem qmy:prog.globalNamed "internal/strconv.uint64pow10" = some 1:=by kernel_rfl
theorem qmt:(prog.globals[1]?).map (·.type)=some 281:=by kernel_rfl
theorem qmz:prog.globalNamed "errors.errorType" = some 0:=by kernel_rfl
theorem qmk:(prog.cutTypes.find? (·.1== "internal/reflectlite.rtype")).map (·.2)=some 219:=by kernel_rfl
theorem qls:((List.range 326).filter fun t=>prog.rowNamed t [101,114,114,111,114])=[29]:=by kernel_rfl
theorem qmi:prog.types.size=326:=by kernel_rfl
theorem qie:prog.cellsOf 281 = 20:=by kernel_rfl
theorem zwj:prog.cellsOf 23 = 2:=by kernel_rfl
theorem qmb:prog.cellsOf 24 = 1:=by kernel_rfl
theorem qhr:(Rows.laid_internal_strconv_uint64pow10:DataW Unit)=Lib.tabData .u64 Lib.pow10Tab:=by kernel_rfl
theorem qhv {W:World} (h:laidMetH prog [("math/bits.deBruijn32tab",Rows.laid_math_bits_deBruijn32tab),("math/bits.deBruijn64tab",Rows.laid_math_bits_deBruijn64tab),("internal/strconv.uint64pow10",Rows.laid_internal_strconv_uint64pow10),("errors.errorType",Rows.laid_errors_errorType)] W):Lib.TabIs prog W "internal/strconv.uint64pow10" .u64 Lib.pow10Tab∧W.cell? ⟨0,0,none⟩=some (.iface 219 (.agg #[.pointer (some ⟨7,29,none⟩)])):=by(
 have h':laidMet prog [("math/bits.deBruijn32tab",Rows.laid_math_bits_deBruijn32tab),("math/bits.deBruijn64tab",Rows.laid_math_bits_deBruijn64tab),("internal/strconv.uint64pow10",Rows.laid_internal_strconv_uint64pow10)] W∧handlesMet prog [("errors.errorType",Rows.laid_errors_errorType)] W:=h
 refine⟨?_,?_⟩
 ·(
 obtain⟨ps,⟨g0,t0,cs0,f0,p0,q0,-,-,-,-,⟨g1,t1,cs1,f1,p1,q1,-,-,-,-,⟨g2,t2,cs2,f2,p2,q2,hg2,ht2,hv2,hd2,-,-⟩,-⟩,-⟩,-⟩:=h'.1
 obtain rfl:=Option.some.inj (qmy.symm.trans hg2)
 obtain rfl:=Option.some.inj (qmt.symm.trans ht2)
 rw[qhr] at hd2
 unfold Lib.TabIs
 rw[hv2,← Lib.cells_of_tab underlying281 underlying24 qmb qie hd2])
 ·(
 obtain⟨name,u,ty,e1,e2,e3,e4,e5⟩:=h'.2 _ (List.mem_singleton.2 rfl)
 have en:name=[101,114,114,111,114]:=(Option.some.inj e1).symm
 subst en
 obtain rfl:=Option.some.inj (qmk.symm.trans e2)
 have hm:ty ∈ (List.range 326).filter fun t=>prog.rowNamed t [101,114,114,111,114]:=List.mem_filter.2 ⟨List.mem_range.2 (by rw[← qmi];exact e3),e4⟩
 rw[qls] at hm
 obtain rfl:=List.mem_singleton.1 hm
 have hh:typeHandle prog 29 = .pointer (some ⟨7,29,none⟩):=by kernel_rfl
 rw[hh] at e5
 simpa using World.var?_cell qmz e5 0))
theorem qfj:laidOutB prog=true:=by kernel_rfl
theorem qgg:prog.cellsOf 3 = 1:=by kernel_rfl
theorem zis {w:World} {a:Addr} {v:Value} (h:w.cell? a=some v):a.spot=none:=by(
 unfold World.cell? at h
 cases hs:a.spot with
 | none=>rfl
 | some _ =>
  rw[hs] at h
  cases hb:w.heap[a.block]? with
  | none=>rw[hb] at h;simp at h
  | some o=>rw[hb] at h;cases o <;> simp at h)
theorem znd (a:Addr) (k:Nat) (h:(a.add k).spot=none):a.add k=⟨a.block,a.off+k,none⟩∧(0<k∨a.spot=none):=by(
 unfold Addr.add at *
 split at h
 ·(
 rename_i hk
 subst hk
 refine⟨?_,.inr h⟩
 rw[if_pos rfl]
 cases a
 simp only at h
 subst h
 rfl)
 ·rename_i hk
  exact⟨by rw[if_neg hk],.inl (by omega)⟩)
theorem qdb {H:Type} {enc:TypeId × Value→H} {W:World} {v:Value} {d:DataW H} {ps:List MemPlace} (hval:Value.okWide prog W .any 0 41 v) (h:DataW.Trod enc prog W 0 (fun _=>true) true 41 v d ps) :
   ∃ qs:List (Int × Int),zuo W v qs∧(∀ q ∈ qs,Fits q)∧∀ x ∈ ps,x.block<W.heap.size:=by(
 obtain⟨a,len,cap,rfl⟩:=okWide_slice underlying41 hval
 obtain⟨fuel,hf⟩:=h
 rcases Deep.open_slice_pairs underlying41 underlying23 zwj rfl rfl qgg qgg hf with ⟨hc,hx⟩|⟨b,len',cap',m,k,V0,V1,D0,D1,P0,P1,hc,-,hl,hm,hmm,hx,hall⟩
 ·(
 have hc':[Value.slice a len cap]=[.slice none 0 0]:=hc
 simp only[List.cons.injEq,Value.slice.injEq,and_true] at hc'
 obtain⟨rfl,rfl,rfl⟩:=hc'
 have:ps=[]:=(Prod.mk.inj hx).2
 subst this
 exact⟨[],⟨none,0,rfl,Nat.le_refl _,fun i q hq=>by simp at hq⟩,fun q hq=>by simp at hq,fun x hx=>by simp at hx⟩)
 ·(
 have hc':[Value.slice a len cap]=[.slice (some b) len' cap']:=hc
 simp only[List.cons.injEq,Value.slice.injEq,and_true] at hc'
 obtain⟨rfl,rfl,rfl⟩:=hc'
 have hlm:len≤m:=by rw[hmm];simpa using hl
 have each:∀ i,i<m→∃ q:Int × Int,Fits q∧W.cell? ⟨b.block,b.off+i*2,none⟩=some (.int .i64 q.1)∧W.cell? ⟨b.block,b.off+i*2+1,none⟩=some (.int .i64 q.2)∧P0 i=[]∧P1 i=[]:=fun i hi=>by
  obtain⟨c0,c1,t0,t1⟩:=hall i hi
  obtain⟨x,e1,e2,w1⟩:=DataW.trod_int underlying3 t0
  obtain⟨y,f1,f2,w2⟩:=DataW.trod_int underlying3 t1
  simp only[List.cons.injEq,and_true] at e1 f1
  rw[(znd b _ (zis c0)).1,e1] at c0
  rw[(znd b _ (zis c1)).1,f1] at c1
  have Bx:=bounds_i64 w1
  have By:=bounds_i64 w2
  exact⟨(x,y),⟨by omega,by omega,by omega,by omega⟩,c0,c1,(Prod.mk.inj e2).2,(Prod.mk.inj f2).2⟩
 have hspot:0<m→b.spot=none:=fun h0=>by
  obtain⟨c0,-⟩:=hall 0 h0
  have:=(znd b _ (zis c0)).2
  simpa using this
 obtain⟨q,hq⟩:=Classical.axiomOfChoice (fun i:Nat=>(by
  by_cases hi:i<m
  ·obtain⟨q,h⟩:=each i hi
   exact⟨q,fun _=>h⟩
  ·exact⟨(0,0),fun h=>absurd h hi⟩:∃ q:Int × Int,i<m→Fits q∧W.cell? ⟨b.block,b.off+i*2,none⟩=some (.int .i64 q.1)∧W.cell? ⟨b.block,b.off+i*2+1,none⟩=some (.int .i64 q.2)∧P0 i=[]∧P1 i=[]))
 refine⟨(List.range len).map q,⟨some b,cap,by simp,by simpa using hl,fun i z hz=>?_⟩,fun z hz=>?_,fun x hx'=>?_⟩
 ·(
 rw[List.getElem?_map] at hz
 by_cases hi:i<len
 ·(
 rw[List.getElem?_range hi,Option.map_some] at hz
 obtain rfl:=Option.some.inj hz
 have hs:=hspot (by omega)
 refine⟨b.block,b.off,?_,(hq i (by omega)).2.1,(hq i (by omega)).2.2.1⟩
 cases b
 simp only at hs
 subst hs
 rfl)
 ·rw[List.getElem?_eq_none (by simpa using hi)] at hz
  simp at hz)
 ·obtain⟨i,hi,rfl⟩:=List.mem_map.1 hz
  exact (hq i (by have:=List.mem_range.1 hi;omega)).1
 ·(
 have hps:ps=MemPlace.row b (m*2)++(List.range m).flatMap fun i=>P0 i++P1 i:=(Prod.mk.inj hx).2
 rw[hps] at hx'
 have hfl:((List.range m).flatMap fun i=>P0 i++P1 i)=[]:=by
  rw[List.flatMap_eq_nil_iff]
  intro i hi
  have h:=hq i (List.mem_range.1 hi)
  rw[h.2.2.2.1,h.2.2.2.2]
  rfl
 rw[hfl,List.append_nil] at hx'
 rcases Nat.eq_zero_or_pos m with h0 | h0
 ·subst h0
  simp[MemPlace.row] at hx'
 ·(
 have hb:b.block<W.heap.size:=by
  have h:=ai (hq 0 h0).2.1
  exact h
 have:x.block=b.block:=by
  unfold MemPlace.row at hx'
  obtain⟨i,-,rfl⟩:=List.mem_map.1 hx'
  rfl
 omega))))
theorem qif (h:Rows.ClaimsSaySaid):Rows.ClaimsSayCardSaid :=
 Claim7.holds_tied_plain_at .later [] [.data,.data,.data,.handle] true (true,"2221625d58b73759a792136dd4801e66192dd0f08233eec995e92b97aa677481") true
  h (fun _ h=>by cases h) (by kernel_rfl) (fun _ h=>by cases h) claimsSay_row_tie rfl ⟨rfl,rfl⟩ (by kernel_rfl) rfl
  (fun f fn hf hfn=>by
   obtain rfl:f = 7:=Option.some.inj ((show prog.funcNamed "tontine/tontinelaw.ClaimsSay" = some 7 by kernel_rfl).symm.trans hf) |>.symm
   obtain rfl:fn=Tryz.f7:=(Option.some.inj (func7.symm.trans hfn)).symm
   exact⟨by kernel_rfl,fun j t ht=>by
    rw[params7] at ht
    rcases j with _ | _ | _ | _ | j
    ·obtain rfl : 41 = t:=by simpa using ht
     exact (show prog.wantsStandIn 41 = false by kernel_rfl)
    ·obtain rfl : 23 = t:=by simpa using ht
     exact (show prog.wantsStandIn 23 = false by kernel_rfl)
    ·obtain rfl : 3 = t:=by simpa using ht
     exact (show prog.wantsStandIn 3 = false by kernel_rfl)
    ·obtain rfl : 3 = t:=by simpa using ht
     exact (show prog.wantsStandIn 3 = false by kernel_rfl)
    ·simp at ht⟩)
  (by kernel_rfl)
open Go.RowKit
theorem xq.qlo {w:World} {g n:Nat} {F:Nat→Rat} (h:xq w g n (fun _=>True) F):zn w (.slice (some ⟨g,0,none⟩) n n) ((List.range n).map F):=by(
 refine⟨some ⟨g,0,none⟩,n,by simp,by simp,fun i f hi=>?_⟩
 have hin:i<n:=by
  have:=(List.getElem?_eq_some_iff.1 hi).1
  simpa using this
 rw[List.getElem?_map,List.getElem?_range hin,Option.map_some] at hi
 obtain rfl:=Option.some.inj hi
 obtain⟨b,hc,hb⟩:=h.told i hin trivial
 exact⟨g,0,_,rfl,by rw[Nat.zero_add];exact hc,b,rfl,hb⟩)
theorem zjj (f:Nat→Rat) (u:Nat→Nat) (c:Nat):∀ m,(∀ j,j<m→zu (f j) c)→∀ t,zu (vw f u m t) (m*(c+1)+2)
 | 0,_,t=>(zu.int (z:=0) (by decide)).mono (show 2≤0*(c+1)+2 by omega)
 | m+1,h,t=>by
  have ih:=zjj f u c m (fun j hj=>h j (by omega))
  have e:(m+1)*(c+1)=m*(c+1)+(c+1):=Nat.succ_mul _ _
  show zu (if t=u m then vw f u m (u m)+f m else vw f u m t) _
  split
  ·exact ((ih (u m)).add (h m (by omega))).mono (by omega)
  ·exact (ih t).mono (by omega)
theorem zpx (v:Value) (fs:List Rat) (F:Nat→Rat) (a b M:Nat) (w:World) (hr:zn w v fs) (hF:∀ i,i<fs.length→fs[i]? = some (F i)) (hn:fs.length≤201) (lf:∀ i,i<fs.length→zu (F i) 200) (ha:a≤200) (hb:b≤200) (hM:M≤b) (hM1:(vw F (wi a b) fs.length M).num≠0) (hM2:∀ t,M<t→t≤b→(vw F (wi a b) fs.length t).num=0) :
   Calls prog 52 #[v,.int .i64 (a:Int),.int .i64 (b:Int)] w fun e w'=>∃ v',e=.returned v'∧zn w' v' ((List.range (M+1)).map (vw F (wi a b) fs.length))∧But [] w w':=by(
 have hmk0:=fun wx=>znn wx (b+1) (by omega)
 obtain⟨N,hN⟩:∃ N,N=b+1:=⟨_,rfl⟩
 rw[← hN] at hmk0
 have hmk:∀ wx,(Instr.makeSlice 42 (.int .i64 ((b:Int)+1)) (.int .i64 ((b:Int)+1))).run prog wx=.ok (.slice (some ⟨wx.heap.size,0,none⟩) N N) (wx.alloc (.cells (madeCells #[.pointer none] N) 37)):=fun wx=>by
  rw[show (b:Int)+1=((N:Nat):Int) by omega];exact hmk0 wx
 have lL:∀ m,m≤fs.length→∀ t,zu (vw F (wi a b) m t) 100000:=fun m hm t=>(zjj F (wi a b) 200 m (fun j hj=>lf j (by omega)) t).mono (by
  have:m*(200+1)≤201*201:=Nat.mul_le_mul (by omega) (Nat.le_refl _)
  omega)
 have TR:=af (fun W g (hrow:xq W g N (fun _=>True) (vw F (wi a b) fs.length))=>zsi _ _ (vw F (wi a b) fs.length) M W hrow.qlo (fun i hi=>by
  have hi2:i<N:=by simpa using hi
  rw[List.getElem?_map,List.getElem?_range hi2,Option.map_some]) (by rw[List.length_map,List.length_range];omega) (fun i hi=>(lL _ (Nat.le_refl _) i).mono (by omega)) (by rw[List.length_map,List.length_range];omega) (.inr hM1) (fun j h1 h2=>hM2 j h1 (by
   have h3:j<N:=by simpa using h2
   omega)))
 have hTK:((List.range N).map (vw F (wi a b) fs.length)).take (M+1)=(List.range (M+1)).map (vw F (wi a b) fs.length):=by
  rw[← List.map_take,List.take_range,Nat.min_eq_left (by omega)]
 rw[hTK] at TR
 have I0:=af (fun W=>ui 0 W (by omega) (by omega))
 have AD:=af (fun (k t:Nat) (W:World) (x y:Nat) (h:k<fs.length) (hx:ze W x (vw F (wi a b) k t)) (hy:ze W y (F k))=>zfy x y _ _ W hx hy ((lL k (by omega) t).mono (by omega)) ((lf k h).mono (by omega)))
 obtain⟨a0,cap,rfl,hcap,hV⟩:=zaj hr hF
 have HV:=af hV
 have hbN:b<N:=by omega
 have hbN2:N≤b+1:=by omega
 have hN1000:N<1000:=by omega
 clear hV hr hF lf lL hM1 hM2 hTK hmk0 hN
 obtain⟨n,hnn⟩:∃ n,n=fs.length:=⟨_,rfl⟩
 rw[← hnn] at hn hcap HV AD TR
 rw[← hnn]
 clear hnn
 go_enter func52,ntmps52
 go_wp2
 have bw0:But [] w (w.alloc (.cells (madeCells #[.pointer none] N) 37)):=(But.refl _ _).alloc _
 have R0:xq (w.alloc (.cells (madeCells #[.pointer none] N) 37)) w.heap.size N (fun j=>j<0) (fun _=>0):=(xq.made w N (by omega) (fun _=>0) _).mono (fun i _ h=>absurd h (by omega))
 obtain⟨gG,hgG⟩:∃ g,g=w.heap.size:=⟨_,rfl⟩
 rw[← hgG] at R0
 rw[← hgG]
 have HG:Hid (w.heap.size≤gG):=Nat.le_of_eq hgG.symm
 generalize w.alloc (.cells (madeCells #[.pointer none] N) 37)=V0 at *
 have S0:=af (And.intro R0 bw0)
 clear R0 bw0 hgG hmk
 go_loopw [17] (fun i wr=>∃ k:Nat,k≤N∧i=.int .i64 (k:Int)∧Hid (xq wr gG N (fun j=>j<k) (fun _=>0)∧But [] w wr)) (fun i _=>N-(intOf i).toNat)
 case atStart=>exact⟨0,Nat.zero_le _,rfl,ae S0⟩
 case round =>(
 obtain⟨k,hk,rfl,HI⟩:=hrel
 rename World=>wr
 clear S0
 by_cases hlt:k<N
 ·(
 go_wp2_with fail
 refine (ae I0 _).mono ?_
 rintro e w2 ⟨g2,rfl,h2,hb2⟩
 have row:=(ae HI).1.but hb2
 obtain⟨q,hq⟩:=row.cell k hlt
 have fz:=row.loose k
 have NX:Hid (xq (w2.setCell ⟨gG,k,none⟩ (.pointer (some ⟨g2,0,none⟩))) gG N (fun j=>j<k+1) (fun _=>0)∧But [] w (w2.setCell ⟨gG,k,none⟩ (.pointer (some ⟨g2,0,none⟩)))):=⟨(row.put hlt (f:=0) h2).mono (fun i _ h=>⟨by omega,by split <;> rfl⟩),((ae HI).2.trans' hb2).trans (zcy w2 gG k _) (fun x hx=>by simp at hx;subst hx;exact .inr (ae HG))⟩
 clear h2 hb2 row HI
 go_wp2
 exact⟨⟨k+1,by omega,by go_num,ae NX⟩,by simp[intOf];omega⟩)
 ·(
 obtain rfl:k=N:=by omega
 have S1:Hid (xq wr gG k (fun _=>True) (vw F (wi a b) 0)∧But [] w wr):=⟨(ae HI).1.mono (fun i hi _=>⟨hi,rfl⟩),(ae HI).2⟩
 clear HI
 go_wp2
 go_loopw [27] (fun i wr=>∃ x:Nat,x≤n∧i=.int .i64 (x:Int)∧Hid (xq wr gG k (fun _=>True) (vw F (wi a b) x)∧But [] w wr)) (fun i _=>n-(intOf i).toNat)
 case atStart=>exact⟨0,Nat.zero_le _,rfl,ae S1⟩
 case round =>(
 obtain⟨x,hx,rfl,HI⟩:=hrel
 rename World=>wx
 clear S1 I0
 by_cases hxn:x<n
 ·(
 obtain⟨bb,off,g,rfl,c0,hT⟩:=ae HV wx (ae HI).2 x hxn
 obtain⟨m1,hm1⟩:∃ m1,m1=x-a:=⟨_,rfl⟩
 have hmx:max 0 ((x:Int)-(a:Int))=(m1:Int):=by omega
 obtain⟨u,hu⟩:∃ u,u=wi a b x:=⟨_,rfl⟩
 have huk:u<k:=by rw[hu];unfold wi;omega
 obtain⟨px,hpc,hpr⟩:=(ae HI).1.told u huk trivial
 have ADx:=af (ae AD x u wx px g hxn hpr hT)
 have hu2:(m1 > b∧u=b)∨(¬ m1 > b∧u=m1):=by
  rw[hu,hm1];unfold wi;omega
 have HU:=af hu
 clear hpr hT hm1 hu
 rcases hu2 with ⟨h1,h2⟩|⟨h1,h2⟩
 ·(
 obtain rfl:=h2.symm
 have h1':(m1:Int) > (b:Int):=by omega
 go_wp2_with fail
 refine (ae ADx).mono ?_
 rintro e w2 ⟨g2,rfl,h2,hb2⟩
 have row:=(ae HI).1.but hb2
 obtain⟨q,hq⟩:=row.cell b huk
 have fz:=row.loose b
 have NX:Hid (xq (w2.setCell ⟨gG,b,none⟩ (.pointer (some ⟨g2,0,none⟩))) gG k (fun _=>True) (vw F (wi a b) (x+1))∧But [] w (w2.setCell ⟨gG,b,none⟩ (.pointer (some ⟨g2,0,none⟩)))):=⟨(row.put huk h2).mono (fun i _ _=>⟨.inr trivial,by
  have e:vw F (wi a b) (x+1) i=if i=wi a b x then vw F (wi a b) x (wi a b x)+F x else vw F (wi a b) x i:=rfl
  rw[e,← ae HU]⟩),((ae HI).2.trans' hb2).trans (zcy w2 gG b _) (fun z hz=>by simp at hz;subst hz;exact .inr (ae HG))⟩
 clear h2 hb2 row HI ADx c0 hpc
 go_wp2
 exact⟨⟨x+1,by omega,by go_num,ae NX⟩,by simp[intOf];omega⟩)
 ·(
 subst h2
 have h1':¬ (u:Int) > (b:Int):=by omega
 go_wp2_with fail
 refine (ae ADx).mono ?_
 rintro e w2 ⟨g2,rfl,h2,hb2⟩
 have row:=(ae HI).1.but hb2
 obtain⟨q,hq⟩:=row.cell u huk
 have fz:=row.loose u
 have NX:Hid (xq (w2.setCell ⟨gG,u,none⟩ (.pointer (some ⟨g2,0,none⟩))) gG k (fun _=>True) (vw F (wi a b) (x+1))∧But [] w (w2.setCell ⟨gG,u,none⟩ (.pointer (some ⟨g2,0,none⟩)))):=⟨(row.put huk h2).mono (fun i _ _=>⟨.inr trivial,by
  have e:vw F (wi a b) (x+1) i=if i=wi a b x then vw F (wi a b) x (wi a b x)+F x else vw F (wi a b) x i:=rfl
  rw[e,← ae HU]⟩),((ae HI).2.trans' hb2).trans (zcy w2 gG u _) (fun z hz=>by simp at hz;subst hz;exact .inr (ae HG))⟩
 clear h2 hb2 row HI ADx c0 hpc
 go_wp2
 exact⟨⟨x+1,by omega,by go_num,ae NX⟩,by simp[intOf];omega⟩))
 ·(
 obtain rfl:x=n:=by omega
 have TRx:=af (ae TR wx gG (ae HI).1)
 have HB:=af (ae HI).2
 clear HI TR
 go_wp2_with fail
 refine (ae TRx).mono ?_
 rintro e w2 ⟨v',rfl,hv',hb2⟩
 have FIN:=af (And.intro hv' ((ae HB).trans' hb2))
 clear hv' hb2 TRx HB
 go_wp2
 go_ret
 exact⟨_,rfl,(ae FIN).1,(ae FIN).2⟩)))))
end Go.Proofs.YtagmkkiagjmimaaGreatDoor
