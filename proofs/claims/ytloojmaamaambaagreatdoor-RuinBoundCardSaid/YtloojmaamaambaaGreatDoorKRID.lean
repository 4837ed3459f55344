/- ruin.from0, and what ruin.check says.  -/
import Derived.Test.YtloojmaamaambaaGreatDoorKRIB
import Derived.Test.YtloojmaamaambaaGreatDoorKRU5c
namespace Go.Proofs.YtloojmaamaambaaGreatDoor
open Go.RowKit
set_option maxHeartbeats 8000000
set_option maxRecDepth 100000
theorem from0_any (n m:Int) (h1:0≤n) (h2:n≤m) (_h3:m≤1000) (w:World):Calls Tryz.prog 94 #[.int .i64 n,.int .i64 m] w fun e w'=>e=.returned (.bool true)∧But [] w w':=by
 go_enter Tryz.func94,Tryz.ntmps94
 go_wp2
 go_ret
 exact ⟨rfl,But.refl _ _⟩
theorem ruinCheck_any (va:Value) (fs:List Rat) (c:Nat) (w:World) (ha:FracsAt w va fs) (hn:fs.length≤41) (lf:∀ f ∈ fs,Len f c) (hc:c≤100) :
  Calls Tryz.prog 93 #[va,.bool true] w fun e w'=>e=.returned (errV (chkE fs))∧But [] w w':=by
 have CA:=hide (lawCheck_any va fs c w ha (by omega) lf hc)
 obtain ⟨q,cap,rfl,-,-⟩:=id ha
 obtain ⟨ca,hca⟩:∃ ca,ca=chkE fs:=⟨_,rfl⟩
 rw [← hca] at CA ⊢
 clear ha hca
 generalize fs.length=n at *
 go_enter Tryz.func93,Tryz.ntmps93
 go_wp2_with fail
 refine (unhide CA).mono ?_
 rintro e w1 ⟨rfl,hb1⟩
 have B1:=hide hb1
 clear hb1 CA
 by_cases h0:ca=0
 ·subst h0
  rw [show errV 0=.nilIface from rfl]
  go_wp2
  go_ret
  exact ⟨rfl,unhide B1⟩
 ·obtain ⟨ev,hev⟩:∃ ev,ev=errV ca:=⟨_,rfl⟩
  have hev2:ev=.iface 54 (.int .i64 ca):=by rw [hev];unfold errV;rw [if_neg h0]
  rw [← hev,hev2]
  have HEV:=hide (hev2.symm.trans hev)
  clear hev hev2
  go_wp2
  go_ret
  exact ⟨congrArg _ (unhide HEV),unhide B1⟩
end Go.Proofs.YtloojmaamaambaaGreatDoor

namespace Go.Proofs.YtloojmaamaambaaGreatDoor
open Go.RowKit
set_option maxHeartbeats 16000000
set_option maxRecDepth 100000
def exL (fs:List Rat) (inc:Nat):List Rat:=(List.range (max fs.length (inc+1))).map (exF fs inc (comN 1 fs))
def sfQ (L:List Rat) (o u:Rat):Bool:=decide ((hornL (fun t=>L[t]?.getD 0) o u ((downsF L.length 0).map (·.1))).1≤0)
theorem exL_len (fs:List Rat) (inc:Nat):(exL fs inc).length=max fs.length (inc+1):=by unfold exL;simp
theorem excess_list (v:Value) (fs:List Rat) (inc:Nat) (w:World) (m:Int) (c:Nat) (hv:FracsAt w v fs) (hl:fs.length≤1000) (hi:inc≤20) (lf:∀ f ∈ fs,Len f c) (hc:c≤100) (htab:Lib.TabIs Tryz.prog w "internal/strconv.uint64pow10" .u64 Lib.pow10Tab) (hm:w.cell? ⟨4,0,none⟩=some (.int .i64 m)) :
  Calls Tryz.prog 95 #[.int .i64 (inc:Int),v] w fun e w'=>∃ v',e=.returned v'∧FracsAt w' v' (exL fs inc)∧But [] w w' :=
 (excess_any v fs inc w m c hv hl hi lf hc htab hm).mono fun _e _w' ⟨_g,e1,h1,_,_,h4⟩=>⟨_,e1,h1.fracs,h4⟩
theorem safe_list (v vo vu:Value) (L:List Rat) (o u:Rat) (w:World) (hv:FracsAt w v L) (hn0:0<L.length) (hn1:L.length≤50) (ho:FracAt w vo o) (hu:FracAt w vu u) (lf:∀ f ∈ L,Len f 100) (lo:Len o 100) (lu:Len u 100) :
  Calls Tryz.prog 98 #[v,vo,vu] w fun e w'=>e=.returned (.bool (sfQ L o u))∧But [] w w':=by
 rcases hv.open with ⟨e,-⟩ | ⟨-,b,off,cap,rfl,-,-⟩
 ·rw [e] at hn0;simp at hn0
 ·exact safe_any b off cap L.length L 100 vo vu o u w hv rfl hn0 hn1 ho hu lf (Nat.le_refl _) lo lu
theorem ruinSafe_any (v vr:Value) (fs:List Rat) (inc:Nat) (r:Rat) (w:World) (m:Int) (c:Nat) (hv:FracsAt w v fs) (hr:FracAt w vr r) (hl:fs.length≤41) (hi:inc≤20) (lf:∀ f ∈ fs,Len f c) (hc:c≤100) (hk:chkE fs=0) (h1:1≤r) (lr:Len r c)
  (lo:Len (r*(((comN 1 [r]:Nat):Int):Rat)) 100) (lu:Len (((comN 1 [r]:Nat):Int):Rat) 100) (lx:∀ f ∈ exL fs inc,Len f 100) (htab:Lib.TabIs Tryz.prog w "internal/strconv.uint64pow10" .u64 Lib.pow10Tab) (hm:w.cell? ⟨4,0,none⟩=some (.int .i64 m)) :
  Calls Tryz.prog 37 #[.int .i64 (inc:Int),v,vr] w fun e w'=>e=.returned (.tuple #[.bool (sfQ (exL fs inc) (r*(((comN 1 [r]:Nat):Int):Rat)) (((comN 1 [r]:Nat):Int):Rat)),.nilIface])∧But [] w w':=by
 obtain ⟨U,hUU⟩:∃ U,U=comN 1 [r]:=⟨_,rfl⟩
 have hlen:=exL_len fs inc
 have CO:=hide (fun W v' (h:But [] w W) (hv':ListsAt W v' [[r]])=>common_any v' [[r]] W m c hv' (by simp) (fun l hl'=>by simp at hl';rw [hl'];simp) (fun l hl' f hf=>by simp at hl';subst hl';simp at hf;subst hf;exact lr) (by simp;omega) (by omega) (TabIs.but htab h) (h.cell_some hm (by simp)))
 have F0:=hide (fun W=>from0_any (inc:Int) 20 (by omega) (by omega) (by omega) W)
 have CK:=hide (fun W (h:But [] w W)=>ruinCheck_any v fs c W (hv.but h) hl lf hc)
 rw [hk] at CK
 have EX:=hide (fun W (h:But [] w W)=>excess_list v fs inc W m c (hv.but h) (by omega) hi lf hc (TabIs.but htab h) (h.cell_some hm (by simp)))
 simp only [List.flatten_cons,List.flatten_nil,List.append_nil,← hUU] at CO
 rw [← hUU] at lo lu ⊢
 have SA:=hide (fun W v' vo vu (h1:FracsAt W v' (exL fs inc)) (h2:FracAt W vo (r*(((U:Nat):Int):Rat))) (h3:FracAt W vu (((U:Nat):Int):Rat))=>safe_list v' vo vu (exL fs inc) _ _ W h1 (by omega) (by omega) h2 h3 lx lo lu)
 generalize sfQ (exL fs inc) (r*(((U:Nat):Int):Rat)) (((U:Nat):Int):Rat)=sq at *
 generalize exL fs inc=L at *
 obtain ⟨q,cap,rfl,hcap,-⟩:=id hv
 obtain ⟨x1,y1,p1,rfl,-⟩:=id hr.agg
 generalize hs1:decide (r.num<0)=s1 at *
 obtain ⟨A,hA⟩:∃ A,A=w.alloc (.cells #[.bool s1,.int .u64 x1,.int .u64 y1,.pointer p1] 29):=⟨_,rfl⟩
 have bA:But [] w A:=by rw [hA];exact (But.refl _ _).alloc _
 have c5:P4 A w.heap.size s1 x1 y1 p1:=by rw [hA];exact ⟨by simp,by simp,by simp,by simp⟩
 have HR:=hide hr
 have BA:=hide bA
 have C5:=hide c5
 have LR:=hide lr
 have LO:=hide lo
 have LU:=hide lu
 have H1:=hide h1
 clear hv hr hs1 bA c5 htab hm lf hk hcap hlen lx lr lo lu hUU h1
 generalize fs.length=n at *
 go_enter Tryz.func37,Tryz.ntmps37
 go_wp2_with fail
 rw [← hA]
 refine (unhide F0 _).mono ?_
 rintro e w1 ⟨rfl,hb1⟩
 have B1:=hide ((unhide BA).trans' hb1)
 have C51:=hide ((unhide C5).but hb1 (by simp))
 clear hb1 BA C5 hA F0
 go_wp2_with fail
 refine (unhide CK _ (unhide B1)).mono ?_
 rintro e w2 ⟨rfl,hb2⟩
 have B2:=hide ((unhide B1).trans' hb2)
 have C52:=hide ((unhide C51).but hb2 (by simp))
 clear hb2 B1 C51 CK
 rw [show errV 0=.nilIface from rfl]
 go_wp2_with fail
 generalize hg5:w.heap.size=g5 at *
 obtain ⟨ws,wx,FW,CW⟩:=whole_is 1 (by omega) (by omega)
 obtain ⟨rc,hrc⟩:∃ rc,rc=cmpZ (r.num*((((1:Int):Rat)).den:Int)) ((((1:Int):Rat)).num*(r.den:Int)):=⟨_,rfl⟩
 have hlt:=(cmpZ_tells r ((1:Int):Rat) rc hrc).1
 refine safe_regionA 4 _ _ w2 s1 x1 y1 p1 ws wx rc (by simp) g5 (by simp [Act.eval]) (unhide C52) CW (fun w' hb=>fracCmp_any _ _ r ((1:Int):Rat) w' ((unhide HR).but ((unhide B2).trans' hb)) (FW w') ((unhide LR).mono (by omega)) ((len_int 1 (by decide)).mono (by omega)) rc hrc) ?_
 intro w3 hb3
 simp only [putted,List.foldl_cons,List.foldl_nil,Act.put,List.setIfInBounds_toArray,List.set_cons_zero,List.set_cons_succ]
 have hr0:decide (rc<0)=false:=by
  rw [decide_eq_false]
  intro h
  exact absurd (hlt.1 h) (Rat.not_lt.2 (unhide H1))
 rw [hr0]
 have B3:=hide ((unhide B2).trans' hb3)
 have C53:=hide ((unhide C52).but hb3 (by simp))
 clear hb3 B2 C52 hlt hrc hr0 FW CW
 obtain ⟨k0,k1,k2,k3⟩:=unhide C53
 go_wp2_with fail
 clear k0 k1 k2 k3
 obtain ⟨D,hD⟩:∃ D,D=w3.alloc (.cells #[.bool s1,.int .u64 x1,.int .u64 y1,.pointer p1] 29):=⟨_,rfl⟩
 obtain ⟨E,hE⟩:∃ E,E=D.alloc (.cells #[.slice (some ⟨w3.heap.size,0,none⟩) 1 1] 33):=⟨_,rfl⟩
 have sD:D.heap.size=w3.heap.size+1:=by rw [hD];simp
 have bD:But [] w3 D:=by rw [hD];exact (But.refl _ _).alloc _
 have bE:But [] D E:=by rw [hE];exact (But.refl _ _).alloc _
 have rB:FracsAt D (.slice (some ⟨w3.heap.size,0,none⟩) 1 1) [r]:=by
  have h:RowOf D w3.heap.size 1 (fun _=>r):=⟨fun j hj=>by
   obtain rfl:j=0:=by omega
   rw [Nat.zero_mul]
   exact ⟨s1,x1,y1,p1,by rw [hD];exact ⟨by simp,by simp,by simp,by simp⟩,(unhide HR).but ((unhide B3).trans' bD)⟩,fun o=>by rw [hD];simp⟩
  exact h.fracs
 have hL:ListsAt E (.slice (some ⟨w3.heap.size+1,0,none⟩) 1 1) [[r]]:=by
  refine ⟨some ⟨w3.heap.size+1,0,none⟩,1,rfl,Nat.le_refl _,fun i l hil=>?_⟩
  obtain rfl:i=0:=by
   have:=(List.getElem?_eq_some_iff.1 hil).1
   simpa using this
  obtain rfl:[r]=l:=by simpa using hil
  exact ⟨_,_,.slice (some ⟨w3.heap.size,0,none⟩) 1 1,rfl,by rw [hE,← sD];simp,rB.but bE⟩
 rw [← hD,← hE]
 have B4:=hide ((unhide B3).trans' (bD.trans' bE))
 have C54:=hide ((unhide C53).but (bD.trans' bE) (by simp))
 refine (unhide CO _ _ (unhide B4) hL).mono ?_
 rintro e w5 ⟨v5,rfl,hf5,hb5⟩
 have B5:=hide ((unhide B4).trans' hb5)
 have C55:=hide ((unhide C54).but hb5 (by simp))
 obtain ⟨x2,y2,p2,rfl,-⟩:=id hf5.agg
 generalize decide ((((U:Nat):Int):Rat).num<0)=s2 at *
 have HF5:=hide hf5
 clear hf5 hb5 hL rB bD bE sD hD hE B3 B4 C53 C54 CO
 go_wp2_with fail
 obtain ⟨V,hV⟩:∃ V,V=w5.alloc (.cells #[.bool s2,.int .u64 x2,.int .u64 y2,.pointer p2] 29):=⟨_,rfl⟩
 have bV:But [] w5 V:=by rw [hV];exact (But.refl _ _).alloc _
 have C9:Hid (P4 V w5.heap.size s2 x2 y2 p2):=by rw [hV];exact ⟨by simp,by simp,by simp,by simp⟩
 rw [← hV]
 have B6:=hide ((unhide B5).trans' bV)
 have C56:=hide ((unhide C55).but bV (by simp))
 have F6:=hide ((unhide HF5).but bV)
 clear hV bV B5 C55 HF5
 generalize w5.heap.size=g9 at *
 refine safe_regionB 7 _ _ V (inc:Int) (.slice q n cap) L s1 x1 y1 p1 s2 x2 y2 p2 r (((U:Nat):Int):Rat) sq (by simp) g5 g9 (by simp [Act.eval]) (by simp [Act.eval]) (by simp [Act.eval]) (by simp [Act.eval]) (unhide C56) (unhide C9) (fun w' hb=>unhide EX w' ((unhide B6).trans' hb)) (fun w' hb=>fracMul_any _ _ _ _ w' ((unhide HR).but ((unhide B6).trans' hb)) ((unhide F6).but hb) ((unhide LR).mono (by omega)) ((unhide LU).mono (by omega))) (fun w' v' v'' hb h1 h2=>unhide SA w' v' v'' _ h1 h2 ((unhide F6).but hb)) ?_
 intro w7 v2 v5 hb7
 simp only [putted,List.foldl_cons,List.foldl_nil,Act.put,List.setIfInBounds_toArray,List.set_cons_zero,List.set_cons_succ]
 have B7:=hide ((unhide B6).trans' hb7)
 clear hb7 B6 C56 F6 C9
 go_wp2
 go_ret2
 exact ⟨rfl,unhide B7⟩
end Go.Proofs.YtloojmaamaambaaGreatDoor

namespace Go.Proofs.YtloojmaamaambaaGreatDoor
open Go.RowKit
set_option maxHeartbeats 8000000
set_option maxRecDepth 100000
theorem search_any (N g1 g2:Nat) (hN:N≤1000000) (p:Nat→Bool) (w:World)
  (OF:∀ k,k<N→∀ W,But [] w W→Calls Tryz.prog 97 #[.int .i64 (k:Int),.pointer (some ⟨g1,0,none⟩),.pointer (some ⟨g2,0,none⟩)] W fun e w'=>e=.returned (.bool (p k))∧But [] W w') :
  Calls Tryz.prog 96 #[.int .i64 (N:Int),.func (.func 97) #[] #[.pointer (some ⟨g1,0,none⟩),.pointer (some ⟨g2,0,none⟩)]] w fun e w'=>∃ i:Nat,e=.returned (.int .i64 (i:Int))∧i≤N∧(i=0∨p (i-1)=false)∧But [] w w':=by
 have HOF:=hide OF
 clear OF
 go_enter Tryz.func96,Tryz.ntmps96
 go_wp2
 go_loopw [5,6] (fun x y wr=>∃ i j:Nat,x=.int .i64 (i:Int)∧y=.int .i64 (j:Int)∧i≤j∧j≤N∧Hid (i=0∨p (i-1)=false)∧Hid (But [] w wr)) (fun x y _=>(intOf y-intOf x).toNat)
 case atStart=>exact ⟨0,N,rfl,rfl,Nat.zero_le _,Nat.le_refl _,.inl rfl,But.refl _ _⟩
 case round =>
  obtain ⟨i,j,rfl,rfl,hij,hj,HP,HB⟩:=hrel
  rename World=>wr
  by_cases hlt:i<j
  ·go_wp2_with fail
   obtain ⟨md,hh⟩:∃ md,md=(i+j)/2:=⟨_,rfl⟩
   have e2:((i:Int)+(j:Int))/2=(md:Int):=by omega
   have h3:i≤md:=by omega
   have h4:md<j:=by omega
   rw [e2]
   refine (unhide HOF md (by omega) wr (unhide HB)).mono ?_
   rintro e w1 ⟨rfl,hb1⟩
   have B1:=hide ((unhide HB).trans' hb1)
   clear hb1 HB e2 hh HOF
   cases hp:p md with
   | true =>
    go_wp2
    exact ⟨⟨i,md,rfl,rfl,h3,by omega,HP,B1⟩,by simp [intOf];omega⟩
   | false =>
    have HP2:Hid (md+1=0∨p (md+1-1)=false):=.inr hp
    clear hp HP
    go_wp2
    exact ⟨⟨md+1,j,by go_num,rfl,by omega,hj,HP2,B1⟩,by simp [intOf];omega⟩
  ·obtain rfl:i=j:=by omega
   go_wp2
   go_ret
   exact ⟨i,rfl,hj,unhide HP,unhide HB⟩
end Go.Proofs.YtloojmaamaambaaGreatDoor
