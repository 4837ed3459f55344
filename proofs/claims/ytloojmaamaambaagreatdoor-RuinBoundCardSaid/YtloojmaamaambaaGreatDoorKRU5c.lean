/- Fractions copied from one list into anot -/
import Derived.Laws.IdiomCopy
import Derived.Test.YtloojmaamaambaaGreatDoorKREK
import Derived.Test.YtloojmaamaambaaGreatDoorKRKD
namespace Go.Proofs.YtloojmaamaambaaGreatDoor
open Go.RowKit
theorem run_copy4 {P:Program} (w:World) (dT sT ty elem:TypeId) (b o dLen dCap:Nat) (a:Addr) (sLen sCap m:Nat) (cs:List Value)
  (hu:P.underlying dT=some (.slice elem)) (hs:(P.info? elem).map (·.size)=some 4) (hm:m=Nat.min sLen dLen) (hn:cs.length=m*4)
  (hsrc:∀ j v,cs[j]? = some v→w.cell? (a.add j)=some v) (hc:∀ j,j<cs.length→(w.cell? ⟨b,o+j,none⟩).isSome=true) (hf:∀ j,j<cs.length→w.frozen? ⟨b,o+j,none⟩=false) (h1:∀ v ∈ cs,v.oneCell'=true) :
  (Builtin.copy_ #[dT,sT] ty #[.slice (some ⟨b,o,none⟩) dLen dCap,.slice (some a) sLen sCap]).run P w=.ok (goInt m) (w.setCells b o cs):=by
 have hl:=run_loadCells_list (P:=P) w a cs hsrc
 have hst:=run_storeCells_cells (P:=P) b o cs 0 w (by simpa using hc) (by simpa using hf) h1
 cases hq:P.info? elem with
 | none=>simp [hq] at hs
 | some i =>
  have hi:i.size=4:=by simpa [hq] using hs
  rw [hn] at hl
  simp [Builtin.copy_,run_underlying hu,Builtin.lenOf,Builtin.firstCells,sizeOf,typeInfo,hq,hi,← hm,hl,hst]
theorem P4o.at {w:World} {b o:Nat} {s:Bool} {x y:Int} {p:Option Addr} (h:P4o w b o s x y p) (c:Nat) (hc:c<4):w.cell? ⟨b,o+c,none⟩=(#[Value.bool s,.int .u64 x,.int .u64 y,.pointer p]:Array Value)[c]?:=by
 have:c=0∨c=1∨c=2∨c=3:=by omega
 rcases this with rfl | rfl | rfl | rfl
 ·exact h.1
 ·exact h.2.1
 ·exact h.2.2.1
 ·exact h.2.2.2
end Go.Proofs.YtloojmaamaambaaGreatDoor

namespace Go.Proofs.YtloojmaamaambaaGreatDoor
open Go.RowKit
theorem copy_row (w:World) (gs gd n m:Nat) (F:Nat→Rat) (hs:Row4 w gs n n F) (hd:RowOf w gd m (fun _=>0)) (hnm:n≤m) (h0:0<m) (_hne:gs≠gd) (ty:TypeId) :
  ∃ w',(Builtin.copy_ #[33,33] ty #[.slice (some ⟨gd,0,none⟩) m m,.slice (some ⟨gs,0,none⟩) n n]).run Tryz.prog w=.ok (goInt n) w'∧RowOf w' gd m (fun i=>if i<n then F i else 0)∧But [gd] w w':=by
 obtain ⟨cs,hcs⟩:∃ cs:List Value,cs=(List.range (n*4)).map (fun j=>(w.cell? ⟨gs,j,none⟩).getD (.bool false)):=⟨_,rfl⟩
 have hl:cs.length=n*4:=by rw [hcs];simp
 have hat:∀ j,j<n*4→∃ v,cs[j]? = some v∧w.cell? ⟨gs,j,none⟩=some v∧v.oneCell'=true:=fun j hj=>by
  obtain ⟨s,x,y,p,hp,-⟩:=hs.told (j/4) (by omega)
  have hc:=hp.at (j%4) (by omega)
  rw [show j/4*4+j%4=j from by omega] at hc
  have:j%4=0∨j%4=1∨j%4=2∨j%4=3:=by omega
  have he:cs[j]? = some ((w.cell? ⟨gs,j,none⟩).getD (.bool false)):=by
   rw [hcs,List.getElem?_map,List.getElem?_range hj];rfl
  rcases this with e | e | e | e <;> rw [e] at hc <;> rw [hc] at he ⊢ <;> exact ⟨_,he,rfl,rfl⟩
 have hsome:∀ j,j<m*4→(w.cell? ⟨gd,0+j,none⟩).isSome=true:=fun j hj=>by
  obtain ⟨s,x,y,p,hp,-⟩:=hd.told (j/4) (by omega)
  have hc:=hp.at (j%4) (by omega)
  rw [show j/4*4+j%4=0+j from by omega] at hc
  rw [hc]
  have:j%4=0∨j%4=1∨j%4=2∨j%4=3:=by omega
  rcases this with e | e | e | e <;> rw [e] <;> rfl
 obtain ⟨c,hc⟩:=hd.bool h0
 have hb:But [gd] w (w.setCells gd 0 cs):=but_setCells w gd cs 0
 refine ⟨w.setCells gd 0 cs,run_copy4 w 33 33 ty 29 gd 0 m m ⟨gs,0,none⟩ n n n cs (by kernel_rfl) (by kernel_rfl) (Nat.min_eq_left hnm).symm hl ?_ (fun j hj=>hsome j (by omega)) (fun j _=>hd.loose _) ?_,⟨fun j hj=>?_,fun o=>by rw [World.frozen?_setCells];exact hd.loose o⟩,hb⟩
 ·intro j v hv
  have hj:j<n*4:=by rw [← hl];exact (List.getElem?_eq_some_iff.1 hv).1
  obtain ⟨v',h1,h2,-⟩:=hat j hj
  rw [hv] at h1
  obtain rfl:=Option.some.inj h1
  have e:(⟨gs,0,none⟩:Addr).add j=⟨gs,j,none⟩:=by by_cases hz:j=0 <;> simp [Addr.add,hz]
  rw [e]
  exact h2
 ·intro v hv
  obtain ⟨j,hj⟩:=List.mem_iff_getElem?.1 hv
  have hj2:j<n*4:=by rw [← hl];exact (List.getElem?_eq_some_iff.1 hj).1
  obtain ⟨v',h1,-,h2⟩:=hat j hj2
  rw [hj] at h1
  obtain rfl:=Option.some.inj h1
  exact h2
 ·by_cases hjn:j<n
  ·rw [if_pos hjn]
   obtain ⟨s,x,y,p,hp,hf⟩:=hs.told j hjn
   have hin:∀ k,k<4→(w.setCells gd 0 cs).cell? ⟨gd,j*4+k,none⟩=w.cell? ⟨gs,j*4+k,none⟩:=fun k hk=>by
    obtain ⟨v',h1,h2,-⟩:=hat (j*4+k) (by omega)
    have h3:=World.cell?_setCells_in gd cs 0 w (fun i hi=>hsome i (by omega)) (j*4+k) (by omega)
    rw [Nat.zero_add] at h3
    rw [h3,h2,← h1,List.getElem?_eq_getElem]
   exact ⟨s,x,y,p,⟨(hin 0 (by omega)).trans hp.1,(hin 1 (by omega)).trans hp.2.1,(hin 2 (by omega)).trans hp.2.2.1,(hin 3 (by omega)).trans hp.2.2.2⟩,hf.over hc hb⟩
  ·rw [if_neg hjn]
   obtain ⟨s,x,y,p,hp,hf⟩:=hd.told j hj
   have hout:∀ o,n*4≤o→(w.setCells gd 0 cs).cell? ⟨gd,o,none⟩=w.cell? ⟨gd,o,none⟩:=fun o ho=>World.cell?_setCells_out gd _ 0 w _ (fun _ _=>by simp;omega)
   exact ⟨s,x,y,p,⟨(hout _ (by omega)).trans hp.1,(hout _ (by omega)).trans hp.2.1,(hout _ (by omega)).trans hp.2.2.1,(hout _ (by omega)).trans hp.2.2.2⟩,hf.over hc hb⟩
end Go.Proofs.YtloojmaamaambaaGreatDoor

namespace Go.Proofs.YtloojmaamaambaaGreatDoor
open Go.RowKit
set_option maxHeartbeats 16000000
set_option maxRecDepth 100000
def exF (fs:List Rat) (inc U:Nat) (i:Nat):Rat:=(if i<fs.length then fs[i]?.getD 0*(((U:Nat):Int):Rat) else 0)-(if i=inc then (((U:Nat):Int):Rat) else 0)
theorem excess_any (v:Value) (fs:List Rat) (inc:Nat) (w:World) (m:Int) (c:Nat) (hv:FracsAt w v fs) (hl:fs.length≤1000) (hi:inc≤20) (lf:∀ f ∈ fs,Len f c) (hc:c≤100) (htab:Lib.TabIs Tryz.prog w "internal/strconv.uint64pow10" .u64 Lib.pow10Tab) (hm:w.cell? ⟨4,0,none⟩=some (.int .i64 m)) :
  Calls Tryz.prog 95 #[.int .i64 (inc:Int),v] w fun e w'=>∃ g,e=.returned (.slice (some ⟨g,0,none⟩) (max fs.length (inc+1)) (max fs.length (inc+1)))∧RowOf w' g (max fs.length (inc+1)) (exF fs inc (comN 1 fs))∧w.heap.size≤g∧g<w'.heap.size∧But [] w w':=by
 have hfc:fs.length*c≤1000*100:=Nat.mul_le_mul hl hc
 obtain ⟨U,hUU⟩:∃ U,U=comN 1 fs:=⟨_,rfl⟩
 have lU:Len (((U:Nat):Int):Rat) 200000:=by
  rw [hUU]
  refine nat_len _ _ (Nat.le_refl _) (Nat.le_trans (comN_len c fs 1 lf) ?_) (by omega)
  have h1:(wd 18446744073709551616 1).length≤1:=wd_length_le (by omega) _ 1 (by omega)
  omega
 have CO:=hide (fun W v' (h:But [] w W) (hv':ListsAt W v' [fs])=>common_any v' [fs] W m c hv' (by simp) (fun l hl'=>by simp at hl';rw [hl'];omega) (fun l hl'=>by simp at hl';rw [hl'];exact lf) (by simp;omega) (by omega) (TabIs.but htab h) (h.cell_some hm (by simp)))
 have TI:=hide (fun W vu (h:But [] w W) (hu:FracAt W vu (((U:Nat):Int):Rat))=>times_any v vu fs _ W (hv.but h) hu (by omega) (fun f hf=>(lf f hf).mono (by omega)) (lU.mono (by omega)))
 have LF:Hid (∀ i,i<fs.length→Len (fs[i]?.getD 0) c):=fun i h=>by rw [List.getElem?_eq_getElem h];exact lf _ (List.getElem_mem h)
 simp only [List.flatten_cons,List.flatten_nil,List.append_nil,← hUU] at CO
 rw [← hUU]
 have HV:=hide hv
 have HLU:=hide lU
 obtain ⟨q,cap,rfl,hcap,-⟩:=id hv
 obtain ⟨n,hN⟩:∃ n,n=fs.length:=⟨_,rfl⟩
 rw [← hN] at TI HV LF hl ⊢
 have HN:=hide hN
 obtain ⟨z,hz⟩:∃ z,z=max n (inc+1):=⟨_,rfl⟩
 rw [← hz]
 have hz1:n≤z:=by omega
 have hz2:inc<z:=by omega
 have hz3:z≤1021:=by omega
 have hmax:(max (n:Int) ((inc:Int)+1))=(z:Int):=by omega
 have hmk:=fun wx=>run_makeF wx z (by omega)
 clear hv lU hUU htab hm hN hcap hfc lf hz
 go_enter Tryz.func95,Tryz.ntmps95
 go_wp2_with fail
 have bL:But [] w (w.alloc (.cells #[.slice q n cap] 33)):=(But.refl _ _).alloc _
 have hL:ListsAt (w.alloc (.cells #[.slice q n cap] 33)) (.slice (some ⟨w.heap.size,0,none⟩) 1 1) [fs]:=by
  refine ⟨some ⟨w.heap.size,0,none⟩,1,rfl,Nat.le_refl _,fun i l hil=>?_⟩
  obtain rfl:i=0:=by
   have:=(List.getElem?_eq_some_iff.1 hil).1
   simpa using this
  obtain rfl:fs=l:=by simpa using hil
  exact ⟨_,_,.slice q n cap,rfl,by simp,(unhide HV).but bL⟩
 refine (unhide CO _ _ bL hL).mono ?_
 rintro e w1 ⟨v1,rfl,hf1,hb1⟩
 have B1:=hide (bL.trans' hb1)
 obtain ⟨x1,y1,p1,rfl,-⟩:=id hf1.agg
 generalize hs1:decide ((((U:Nat):Int):Rat).num<0)=s1 at *
 have HF1:=hide hf1
 clear hb1 hf1 hs1 hL bL CO
 go_wp2_with fail
 obtain ⟨A,hA⟩:∃ A,A=w1.alloc (.cells #[.bool s1,.int .u64 x1,.int .u64 y1,.pointer p1] 29):=⟨_,rfl⟩
 obtain ⟨V,hV⟩:∃ V,V=A.alloc (.cells (madeCells #[.bool false,.int .u64 0,.int .u64 0,.pointer none] (z*4)) 29):=⟨_,rfl⟩
 have sA:A.heap.size=w1.heap.size+1:=by rw [hA];simp
 have bA:But [] w1 A:=by rw [hA];exact (But.refl _ _).alloc _
 have bV:But [] A V:=by rw [hV];exact (But.refl _ _).alloc _
 have xU:BoxAt V w1.heap.size (((U:Nat):Int):Rat):=by
  have h1:=(BoxAt.new w1 s1 x1 y1 p1 _ 29 (unhide HF1))
  rw [← hA] at h1
  exact h1.but bV
 have rD:RowOf V (w1.heap.size+1) z (fun _=>0):=by
  rw [← sA,hV]
  exact RowOf.made A z
 have sV:w1.heap.size+1<V.heap.size:=by rw [hV,← sA];simp
 rw [← hA,← hV]
 have hww:w.heap.size≤w1.heap.size:=(unhide B1).size
 have B2:=hide ((unhide B1).trans' (bA.trans' bV))
 have F2:=hide (((unhide HF1).but bA).but bV)
 have XU:=hide xU
 have RD:=hide rD
 clear hA hV sA bA bV xU rD B1 HF1
 generalize hg5:w1.heap.size=g5 at *
 clear hg5
 refine (unhide TI _ _ (unhide B2) (unhide F2)).mono ?_
 rintro e w3 ⟨g,rfl,hr,hg1,hg2,hb3⟩
 have hne:g≠g5+1:=by omega
 obtain ⟨w4,hcp,hrow,hb4⟩:=copy_row w3 g (g5+1) n z (fun i=>fs[i]?.getD 0*(((U:Nat):Int):Rat)) hr ((unhide RD).but hb3 sV) hz1 (by omega) hne 3
 have cb:=((unhide RD).but hb3 sV).bool (show 0<z by omega)
 have XU4:=hide (((unhide XU).but hb3).beside hb4 (by simp) (fun t ht=>by simp at ht;subst ht;exact cb))
 have B4:=hide (((unhide B2).trans' hb3).trans hb4 (fun t ht=>by simp at ht;subst ht;exact .inr (by omega)))
 have s4:Hid (g5+1<w4.heap.size):=Nat.lt_of_lt_of_le (Nat.lt_of_lt_of_le sV hb3.size) hb4.size
 have HR:=hide hrow
 clear hr hg1 hg2 hb3 hb4 hrow cb RD XU B2 F2 TI sV
 go_wp2_with fail
 clear hcp hmk hmax
 obtain ⟨t1,a1,b1,q1,c1,f1⟩:=(unhide HR).told inc hz2
 obtain ⟨⟨t2,a2,b2,q2,c2,f2⟩,-⟩:=id (unhide XU4)
 have lr:Len (if inc<n then fs[inc]?.getD 0*(((U:Nat):Int):Rat) else 0) 200200:=by
  by_cases h:inc<n
  ·rw [if_pos h];exact len_mul (unhide LF inc h) (unhide HLU) _ (by omega)
  ·rw [if_neg h];exact len_zero _ (by omega)
 refine excess_region4 4 _ _ w4 (g5+1) (inc*4) 0 z z inc t1 a1 b1 q1 t2 a2 b2 q2 _ _ g5 (by simp) c1 (fun j=>(unhide HR).loose j) (by simp [Act.eval]) (by simp [Act.eval]) (by simp [Act.eval]) (by omega) hz2 (by omega) c1 c2 (fun w' hb=>fracSub_any _ _ _ _ w' (f1.but hb) (f2.but hb) (lr.mono (by omega)) ((unhide HLU).mono (by omega))) ?_
 intro w5 s' x' y' p' hb5 hf5
 simp only [putted,List.foldl_cons,List.foldl_nil,Act.put,List.setIfInBounds_toArray,List.set_cons_zero,List.set_cons_succ]
 have r5:=((unhide HR).but hb5 (unhide s4)).set hz2 s' x' y' p' _ hf5
 have b5:=but_setCells w5 (g5+1) [.bool s',.int .u64 x',.int .u64 y',.pointer p'] (inc*4)
 have B5:=hide (((unhide B4).trans' hb5).trans b5 (fun t ht=>by simp at ht;subst ht;exact .inr (by omega)))
 have s5:Hid (g5+1<(w5.setCells (g5+1) (inc*4) [.bool s',.int .u64 x',.int .u64 y',.pointer p']).heap.size):=Nat.lt_of_lt_of_le (Nat.lt_of_lt_of_le (unhide s4) hb5.size) b5.size
 have R5:=hide r5
 clear r5 b5 hb5 hf5 HR XU4 c1 c2 f1 f2
 generalize w5.setCells (g5+1) (inc*4) [.bool s',.int .u64 x',.int .u64 y',.pointer p']=F at *
 go_wp2
 go_ret
 refine ⟨g5+1,rfl,?_,by omega,unhide s5,unhide B5⟩
 have e:exF fs inc U=setF (fun i=>if i<n then fs[i]?.getD 0*(((U:Nat):Int):Rat) else 0) inc ((if inc<n then fs[inc]?.getD 0*(((U:Nat):Int):Rat) else 0)-(((U:Nat):Int):Rat)):=by
  funext i
  unfold exF setF
  rw [← unhide HN]
  by_cases h:i=inc
  ·subst h;rw [if_pos rfl,if_pos rfl]
  ·rw [if_neg h,if_neg h];grind
 rw [e]
 exact unhide R5
end Go.Proofs.YtloojmaamaambaaGreatDoor
