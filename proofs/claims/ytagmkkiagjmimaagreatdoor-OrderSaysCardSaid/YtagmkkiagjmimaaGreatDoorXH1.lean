/- Whole numbers of package tontinebig: wor -/
import Derived.Deep.QuietTactic
import Derived.BigQuiet
import Derived.Outline
import Derived.Deep.AppendSrc
import Derived.Deep.RegionWith
import Derived.WalkSpells
import Derived.Laws.MakeOwn
import Derived.Laws.Bits64b
import Derived.Test.YtagmkkiagjmimaaGreatDoorXN18
namespace Go.Proofs.YtagmkkiagjmimaaGreatDoor
set_option linter.unusedVariables false
open Go.Proofs.Tryz
open Go.RowKit
set_option maxHeartbeats 2000000
set_option maxRecDepth 100000
theorem oh (v:Value) (xs:List Nat) (w:World) (hv:Sl .u32 w v xs) (hm:∀ x ∈ xs,x<4294967296) (hl:xs.length<2147483648) :
   Calls prog 202 #[v] w fun e w'=>∃ v',e=.returned v'∧Sl .u32 w v' (wd 4294967296 (vl 4294967296 xs))∧w'=w∧zbv v v':=by(
 rcases hv.open with ⟨rfl,a,cap,rfl⟩|⟨h0,b,off,cap,rfl,hc,hb,hcell⟩
 ·(
 go_enter func202,ntmps202
 go_wp2
 refine wp_loop_rounds 1 ?_
 rw[rounds_succ]
 go_wp2
 go_ret
 exact⟨_,rfl,by simp only[vl,zq];exact⟨a,cap,rfl,Nat.zero_le _,fun i hi=>by simp at hi,fun _ _ _ h0=>by simp at h0⟩,rfl,zgu _ _ _ _ _⟩)
 ·(
 have HI:=af (hv.ints h0)
 go_enter func202,ntmps202
 go_wp2
 go_loop [3] (fun i=>∃ n:Nat,n≤xs.length∧i=.int .i64 n∧Hid (vl 4294967296 (xs.take n)=vl 4294967296 xs)) (fun i=>(intOf i).toNat)
 case atStart=>exact⟨xs.length,Nat.le_refl _,rfl,by show _=_;simp⟩
 case round =>(
 obtain⟨n,hn,rfl,hq⟩:=hrel
 by_cases hp:n=0
 ·(
 subst hp
 go_wp2
 go_ret
 refine⟨_,rfl,?_,rfl,zgu _ _ _ _ _⟩
 rw[zgq (by omega) xs 0 hn hq.out hm (.inl rfl)]
 rw[List.take_zero]
 exact Sl.mk (xs:=[]) b off cap (Nat.zero_le _) (fun i hi=>by simp at hi) (fun _=>ae HI))
 ·(
 have hcn:=hcell (n-1) (by omega)
 by_cases hz:xs[n-1]?.getD 0=0
 ·(
 go_wp2
 refine⟨⟨n-1,by omega,by rw[Int.ofNat_sub (by omega)];rfl,?_⟩,by simp[intOf];omega⟩
 show _=_
 rw[← hq.out]
 obtain⟨k,rfl⟩:∃ k,n=k+1:=⟨n-1,by omega⟩
 rw[Nat.add_sub_cancel] at hz ⊢
 rw[p9 xs k (by omega),hz,pg])
 ·(
 go_wp2
 go_ret
 refine⟨_,rfl,?_,rfl,zgu _ _ _ _ _⟩
 rw[zgq (by omega) xs n hn hq.out hm (.inr hz)]
 have hl':(xs.take n).length=n:=by simp;omega
 have h:=Sl.mk (k:=.u32) (w:=w) (xs:=xs.take n) b off cap (by omega) (fun i hi=>by rw[zia xs n i (by omega)];exact hcell i (by omega)) (fun _=>ae HI)
 rw[hl'] at h
 exact h)))))
theorem zgr (v:Value) (xs:List Nat) (w:World) (hv:Sl .u32 w v xs) (hm:∀ x ∈ xs,x<4294967296) (hl:xs.length<2147483648) :
  Calls prog 202 #[v] w fun e w'=>∃ v',e=.returned v'∧Sl .u32 w v' (wd 4294967296 (vl 4294967296 xs))∧w'=w :=
 (oh v xs w hv hm hl).mono fun _ _ ⟨v',h1,h2,h3,_⟩=>⟨v',h1,h2,h3⟩
theorem zbd (u:Nat) (w:World) (hu:u<18446744073709551616) :
   Calls prog 201 #[.int .u64 u] w fun e w'=>∃ v',e=.returned v'∧Sl .u32 w' v' (wd 4294967296 u)∧But [] w w'∧o8 w.heap.size v':=by(
 go_enter func201,ntmps201
 go_wp2_with fail
 have h0:Sl .u32 (w.alloc (.cells #[.int .u32 ((u:Int)%4294967296),.int .u32 ((u:Int)/4294967296)] 238)) (.slice (some ⟨w.heap.size,0,none⟩) 2 2) [u%4294967296,u/4294967296] :=
  Sl.mk (xs:=[u%4294967296,u/4294967296]) w.heap.size 0 2 (by simp) (fun i hi=>by
   match i,hi with
   | 0,_=>simp
   | 1,_=>simp) (fun _ i v hv=>by
   rw[World.cell?_alloc_new] at hv
   match i,hv with
   | 0,hv=>exact⟨_,(by simpa using hv.symm)⟩
   | 1,hv=>exact⟨_,(by simpa using hv.symm)⟩
   | i+2,hv=>simp at hv)
 refine (oh _ [u%4294967296,u/4294967296] _ h0 ?_ ?_).mono ?_
 ·intro x hx
  simp only[List.mem_cons,List.not_mem_nil,or_false] at hx
  omega
 ·simp
 rintro e w' ⟨v',rfl,hs,hw,hsb⟩
 obtain rfl:=hw.symm
 clear hw
 go_wp2
 go_ret
 refine⟨v',rfl,?_,(But.refl _ _).alloc _,dw hsb (Nat.le_refl _)⟩
 have e:vl 4294967296 [u%4294967296,u/4294967296]=u:=by simp only[vl];omega
 rw[e] at hs
 exact hs)
def ze (w:World) (b o:Nat) (z:Int):Prop:=w.cell? ⟨b,o,none⟩=some (.bool (decide (z<0)))∧∃ v,w.cell? ⟨b,o+1,none⟩=some v∧Sl .u32 w v (wd 4294967296 z.natAbs)
theorem zbs (b o:Nat) (neg:Bool) (v:Value) (xs:List Nat) (v0 v1:Value) (w:World) (hv:Sl .u32 w v xs) (_hl:xs.length<2147483648)
   (h0:w.cell? ⟨b,o,none⟩=some v0) (h1:w.cell? ⟨b,o+1,none⟩=some v1) (f0:w.frozen? ⟨b,o,none⟩=false) (f1:w.frozen? ⟨b,o+1,none⟩=false) :
   Calls prog 153 #[.pointer (some ⟨b,o,none⟩),.bool neg,v] w fun e w'=>e=.returned (.pointer (some ⟨b,o,none⟩))∧w'=(w.setCell ⟨b,o+1,none⟩ v).setCell ⟨b,o,none⟩ (.bool (neg && decide (0<xs.length))):=by(
 obtain⟨a,cap,rfl,-,-⟩:=hv
 cases neg <;> by_cases hp:0<xs.length
 all_goals(
 go_enter func153,ntmps153
 go_wp2
 go_ret
 exact⟨rfl,by simp[hp]⟩))
theorem zdh:∃ i,prog.info? 238 = some i∧i.zero=some (.int .u32 0)∧i.size=1∧i.bytes=4:=by(
 have h:(prog.info? 238).map (fun i=>(i.zero,i.size,i.bytes))=some (some (.int .u32 0),1,4):=by kernel_rfl
 obtain⟨i,hi,he⟩:=Option.map_eq_some_iff.1 h
 simp only[Prod.mk.injEq] at he
 exact⟨i,hi,he.1,he.2.1,he.2.2⟩)
theorem zid {P:Program} (w:World) (t ty e:TypeId) (i:TypeInfo) (ht:P.underlying t=some (.slice e)) (hi:P.info? e=some i) (a:Option Addr) (c:Nat) :
   (Builtin.append_ #[t,t] ty #[.slice none 0 0,.slice a 0 c]).run P w=.ok (.slice none 0 0) w:=by(
 cases a with
 | none=>simp[Builtin.append_,run_underlying ht,sizeOf,typeInfo,hi,Builtin.lenOf,run_firstCells_none]
 | some a =>
  have hf:=run_firstCells_some (P:=P) w i.size 0 a 0 c [] (by simp) (by simp)
  simp[Builtin.append_,run_underlying ht,sizeOf,typeInfo,hi,Builtin.lenOf,hf])
theorem zei (v:Value) (xs:List Nat) (w:World) (hv:Sl .u32 w v xs) (hl:xs.length<2147483648) :
   Calls prog 195 #[v] w fun e w'=>∃ v',e=.returned v'∧Sl .u32 w' v' xs∧But [] w w'∧o8 w.heap.size v':=by(
 rcases hv.open with ⟨rfl,a,cap,rfl⟩|⟨h0,b,off,cap,rfl,hc,hb,hcell⟩
 ·(
 obtain⟨i,hi,hz,hs,hbt⟩:=zdh
 have hr:=zid (P:=prog) w 109 109 238 i underlying109 hi a cap
 clear hi hz hs hbt i
 go_enter func195,ntmps195
 have H:=af hr
 clear hr
 go_wp2_with (at_builtin;refine zw rfl _ _ 109 109 rfl _ _ _ _ rfl rfl (ae H) ?_)
 go_ret
 exact⟨_,rfl,Sl.nil _ _,But.refl _ _,fun b off n c e=>by simp at e⟩)
 ·(
 obtain⟨i,hi,hz,hs,hbt⟩:=zdh
 have hr:=run_append_nil (P:=prog) w 109 109 238 i (.int .u32 0) underlying109 hi hz ⟨b,off,none⟩ xs.length cap (xs.map fun (x:Nat)=>Value.int .u32 (x:Int)) (by simp[hs]) (by
  intro j v hj
  simp only[List.getElem?_map,Option.map_eq_some_iff] at hj
  obtain⟨x,hx,rfl⟩:=hj
  have hlt:j<xs.length:=(List.getElem?_eq_some_iff.1 hx).1
  have:=hcell j hlt
  rw[hx] at this
  have e:(⟨b,off,none⟩:Addr).add j=⟨b,off+j,none⟩:=by by_cases h:j=0 <;> simp[Addr.add,h]
  rw[e];exact this) h0 (by omega) (by rw[hbt];omega)
 have hcg:=grownCap_ge w xs.length 0 238
 generalize grownCap w xs.length 0 238 = cg at hr hcg
 clear hi hz hs hbt i
 go_enter func195,ntmps195
 have H:=af hr
 clear hr
 go_wp2_with (at_builtin;refine zw rfl _ _ 109 109 rfl _ _ _ _ rfl rfl (ae H) ?_)
 go_ret
 refine⟨_,rfl,Sl.mk w.heap.size 0 cg hcg (fun j hj=>?_) (fun _ i v hv=>?_),(But.refl _ _).drew.alloc _,fun b off n c e=>?_⟩
 ·rw[World.cell?_drew,World.cell?_alloc_new,Nat.zero_add,Array.getElem?_append_left (by simp;exact hj)]
  simp[hj]
 ·(
 rw[World.cell?_drew,World.cell?_alloc_new] at hv
 have hm:=Array.mem_of_getElem? hv
 rw[Array.mem_append] at hm
 rcases hm with hm | hm
 ·simp only[List.mem_toArray,List.mem_map] at hm
  obtain⟨x,-,rfl⟩:=hm
  exact⟨_,rfl⟩
 ·unfold Builtin.zeroCells at hm
  exact⟨0,by simp at hm;grind⟩)
 ·have e1:=Option.some.inj (Value.slice.inj e).1
  have e2:=(Addr.mk.inj e1).1
  exact Nat.le_of_eq e2))
structure Slot (w:World) (b o:Nat):Prop where
 c0:∃ s,w.cell? ⟨b,o,none⟩=some (.bool s)
 c1:∃ a n c,w.cell? ⟨b,o+1,none⟩=some (.slice a n c)
 f0:w.frozen? ⟨b,o,none⟩=false
 f1:w.frozen? ⟨b,o+1,none⟩=false
theorem Slot.lt {w:World} {b o:Nat} (h:Slot w b o):b<w.heap.size:=by obtain⟨s,hs⟩:=h.c0;exact ai hs
theorem Slot.but {w w':World} {b o:Nat} {l:List Nat} (h:Slot w b o) (hb:But l w w') (hn:b ∉ l):Slot w' b o:=by(
 obtain⟨s,hs⟩:=h.c0
 obtain⟨a,n,c,hc⟩:=h.c1
 have hl:=h.lt
 exact⟨⟨s,hb.ag hs hn⟩,⟨a,n,c,hb.ag hc hn⟩,(hb.frozen (p:=⟨b,o,none⟩) hl hn).trans h.f0,(hb.frozen (p:=⟨b,o+1,none⟩) hl hn).trans h.f1⟩)
theorem ze.lt {w:World} {b o:Nat} {z:Int} (h:ze w b o z):b<w.heap.size:=ai h.1
theorem ze.but {w w':World} {b o:Nat} {z:Int} (h:ze w b o z) (hb:But [] w w'):ze w' b o z:=by
 obtain⟨h0,v,h1,hs⟩:=h
 exact⟨hb.ag h0 (by simp),v,hb.ag h1 (by simp),hs.ah hb⟩
theorem Sl.setCell {k:IntKind} {w:World} {v:Value} {xs:List Nat} (h:Sl k w v xs) (p:Addr) (hp:p.spot=none) (u old:Value) (ho:w.cell? p=some old) (hne:∀ n,old≠.int k n):Sl k (w.setCell p u) v xs:=by(
 obtain⟨b,o,s⟩:=p
 simp only at hp
 subst hp
 exact h.over ((But.refl [b] w).setCell (by simp) u) ho hne)
def o9 (w1:World) (b o:Nat) (v:Value) (s:Bool):World:=(w1.setCell ⟨b,o+1,none⟩ v).setCell ⟨b,o,none⟩ (.bool s)
theorem zfj (w1:World) (b o:Nat) (v:Value) (s:Bool):(o9 w1 b o v s).heap.size=w1.heap.size:=by simp[o9]
theorem zcd (w1:World) (b o:Nat) (v:Value) (s:Bool):But [b] w1 (o9 w1 b o v s):=((But.refl _ _).setCell (by simp) _).setCell (by simp) _
theorem zds (w1:World) (b o:Nat) (v:Value) (s:Bool) (p:Addr):(o9 w1 b o v s).frozen? p=w1.frozen? p:=by simp[o9]
theorem znl {w1:World} {b o:Nat} (h:Slot w1 b o) (v:Value) (s:Bool):(o9 w1 b o v s).cell? ⟨b,o,none⟩=some (.bool s):=by
 obtain⟨s0,hs⟩:=h.c0
 exact World.cell?_setCell_same _ _ _ (u:=.bool s0) (by rw[World.cell?_setCell_other _ _ _ _ (by simp)];exact hs)
theorem znk {w1:World} {b o:Nat} (h:Slot w1 b o) (v:Value) (s:Bool):(o9 w1 b o v s).cell? ⟨b,o+1,none⟩=some v:=by(
 obtain⟨a,n,c,hc⟩:=h.c1
 unfold o9
 rw[World.cell?_setCell_other _ _ _ _ (by simp)]
 exact World.cell?_setCell_same _ _ _ hc)
theorem zfi (w1:World) (b o:Nat) (v:Value) (s:Bool) (p:Addr) (hp:p≠⟨b,o,none⟩) (hp':p≠⟨b,o+1,none⟩):(o9 w1 b o v s).cell? p=w1.cell? p:=by
 unfold o9
 rw[World.cell?_setCell_other _ _ _ _ (Ne.symm hp),World.cell?_setCell_other _ _ _ _ (Ne.symm hp')]
theorem qay {w1:World} {b o:Nat} (h:Slot w1 b o) (v:Value) (s:Bool) {x:Value} {xs:List Nat} (hx:Sl .u32 w1 x xs):Sl .u32 (o9 w1 b o v s) x xs:=by(
 obtain⟨s0,hs⟩:=h.c0
 obtain⟨a,n,c,hc⟩:=h.c1
 exact (hx.setCell ⟨b,o+1,none⟩ rfl v _ hc (by simp)).setCell ⟨b,o,none⟩ rfl _ (.bool s0) (by rw[World.cell?_setCell_other _ _ _ _ (by simp)];exact hs) (by simp))
theorem zcc {w1:World} {b o:Nat} (h:Slot w1 b o) (v:Value) (z:Int) (hv:Sl .u32 w1 v (wd 4294967296 z.natAbs)):ze (o9 w1 b o v (decide (z<0))) b o z :=
 ⟨znl h v _,v,znk h v _,qay h v _ hv⟩
theorem zep {w1:World} {b o:Nat} (h:Slot w1 b o) (a:Option Addr) (n c:Nat) (s:Bool):Slot (o9 w1 b o (.slice a n c) s) b o :=
 ⟨⟨s,znl h _ _⟩,⟨a,n,c,znk h _ _⟩,(zds ..).trans h.f0,(zds ..).trans h.f1⟩
theorem Sl.slice {k:IntKind} {w:World} {v:Value} {xs:List Nat} (h:Sl k w v xs):∃ a n c,v=.slice a n c:=by
 obtain⟨a,cap,rfl,_⟩:=h;exact⟨_,_,_,rfl⟩
theorem dz {w1:World} {b o:Nat} (h:Slot w1 b o) (v:Value) (s:Bool) {b' o':Nat} {z:Int} (hz:ze w1 b' o' z) (hne:b'≠b∨(o'≠o∧o' + 1≠o∧o'≠o+1)):ze (o9 w1 b o v s) b' o' z:=by(
 obtain⟨h0,x,h1,hs⟩:=hz
 refine⟨?_,x,?_,qay h v s hs⟩
 ·rw[zfi _ _ _ _ _ _ (by simp only[ne_eq,Addr.mk.injEq];omega) (by simp only[ne_eq,Addr.mk.injEq];omega)];exact h0
 ·rw[zfi _ _ _ _ _ _ (by simp only[ne_eq,Addr.mk.injEq];omega) (by simp only[ne_eq,Addr.mk.injEq];omega)];exact h1)
theorem yj {w1:World} {b o:Nat} (v:Value) (s:Bool) {b' o':Nat} (hz:Slot w1 b' o') (hne:b'≠b∨(o'≠o∧o' + 1≠o∧o'≠o+1)):Slot (o9 w1 b o v s) b' o':=by(
 obtain⟨⟨s0,hs⟩,⟨a,n,c,hc⟩,f0,f1⟩:=hz
 refine⟨⟨s0,?_⟩,⟨a,n,c,?_⟩,(zds ..).trans f0,(zds ..).trans f1⟩
 ·rw[zfi _ _ _ _ _ _ (by simp only[ne_eq,Addr.mk.injEq];omega) (by simp only[ne_eq,Addr.mk.injEq];omega)];exact hs
 ·rw[zfi _ _ _ _ _ _ (by simp only[ne_eq,Addr.mk.injEq];omega) (by simp only[ne_eq,Addr.mk.injEq];omega)];exact hc)
theorem jb (w:World) (t:TypeId):Slot (w.alloc (.cells #[.bool false,.slice none 0 0] t)) w.heap.size 0 :=
 ⟨⟨false,by simp⟩,⟨none,0,0,by simp⟩,by simp,by simp⟩
theorem zpe (z:Int):(decide (z<0) && decide (0<(wd 4294967296 z.natAbs).length))=decide (z<0):=by(
 by_cases h:z<0
 ·(
 have:0<(wd 4294967296 z.natAbs).length:=by
  rw[Nat.pos_iff_ne_zero];intro e
  rw[zo (by omega)] at e
  omega
 simp[h,this])
 ·simp[h])
theorem zqm (n:Nat) (h:n<18446744073709551616):(wd 4294967296 n).length<2147483648:=by
 have:=aj (B:=4294967296) (by omega) n 2 (by omega)
 omega
theorem zgt (b o:Nat) (x:Int) (w:World) (h1:-9223372036854775808≤x) (h2:x<9223372036854775808) (hs:Slot w b o) :
   Calls prog 155 #[.pointer (some ⟨b,o,none⟩),.int .i64 x] w fun e w'=>e=.returned (.pointer (some ⟨b,o,none⟩))∧∃ w1 v,But [] w w1∧Sl .u32 w1 v (wd 4294967296 x.natAbs)∧w'=o9 w1 b o v (decide (x<0)):=by(
 by_cases hx:x<0
 ·(
 go_enter func155,ntmps155
 go_wp2_with fail
 rw[show IntKind.u64.wrap (-IntKind.u64.wrap x)=((x.natAbs:Nat):Int) from by rw[IntKind.wrap_u64,IntKind.wrap_u64];omega]
 refine (zbd x.natAbs _ (by omega)).mono ?_
 rintro e w1 ⟨v,rfl,hv,hb,-⟩
 go_wp2_with fail
 have hs1:=hs.but hb (by simp)
 obtain⟨s0,hc0⟩:=hs1.c0
 obtain⟨a0,n0,c0,hc1⟩:=hs1.c1
 refine (zbs b o true v _ _ _ w1 hv (zqm _ (by omega)) hc0 hc1 hs1.f0 hs1.f1).mono ?_
 rintro e w2 ⟨rfl,rfl⟩
 go_wp2
 go_ret
 refine⟨rfl,w1,v,hb,hv,?_⟩
 have:=zpe x
 simp only[hx,decide_true,Bool.true_and] at this
 rw[this,decide_eq_true hx]
 rfl)
 ·(
 obtain⟨n,rfl⟩:=Int.eq_ofNat_of_zero_le (Int.not_lt.1 hx)
 go_enter func155,ntmps155
 go_wp2_with fail
 refine (zbd n _ (by omega)).mono ?_
 rintro e w1 ⟨v,rfl,hv,hb,-⟩
 go_wp2_with fail
 have hs1:=hs.but hb (by simp)
 obtain⟨s0,hc0⟩:=hs1.c0
 obtain⟨a0,n0,c0,hc1⟩:=hs1.c1
 refine (zbs b o false v _ _ _ w1 hv (zqm _ (by omega)) hc0 hc1 hs1.f0 hs1.f1).mono ?_
 rintro e w2 ⟨rfl,rfl⟩
 go_wp2
 go_ret
 exact⟨rfl,w1,v,hb,hv,by rw[show decide ((n:Int)<0)=false from decide_eq_false (by omega)];rfl⟩))
theorem ut (x:Int) (w:World) (h1:-9223372036854775808≤x) (h2:x<9223372036854775808) :
   Calls prog 69 #[.int .i64 x] w fun e w'=>e=.returned (.pointer (some ⟨w.heap.size,0,none⟩))∧But [] w w'∧ze w' w.heap.size 0 x∧Slot w' w.heap.size 0:=by(
 go_enter func69,ntmps69
 go_wp2_with fail
 have hs:=jb w 111
 refine (zgt w.heap.size 0 x _ h1 h2 hs).mono ?_
 rintro e w' ⟨rfl,w1,v,hb,hv,rfl⟩
 go_wp2
 go_ret
 have hs1:=hs.but hb (by simp)
 obtain⟨a,n,c,rfl⟩:=hv.slice
 exact⟨rfl,(((But.refl [] w).alloc _).trans' hb).trans (zcd _ _ _ _ _) (by simp),zcc hs1 _ x hv,zep hs1 _ _ _ _⟩)
theorem zwl (b o b' o':Nat) (z:Int) (w:World) (hs:Slot w b o) (hz:ze w b' o' z) (hlen:(wd 4294967296 z.natAbs).length<2147483648) :
   Calls prog 151 #[.pointer (some ⟨b,o,none⟩),.pointer (some ⟨b',o',none⟩)] w fun e w'=>e=.returned (.pointer (some ⟨b,o,none⟩))∧∃ w1 v,But [] w w1∧Sl .u32 w1 v (wd 4294967296 z.natAbs)∧w'=o9 w1 b o v (decide (z<0)):=by(
 obtain⟨h0,v0,h1,hv⟩:=hz
 go_enter func151,ntmps151
 go_wp2
 go_region_with (first
  | (go_at_call 195;refine (zei v0 _ _ ?_ hlen).mono ?_;exact hv;rintro e w1 ⟨v,rfl,hv1,hb,-⟩;have hb0:But [] w w1:=(by first | exact hb | exact (But.refl _ _).drew.trans' hb | exact ((But.refl _ _).drewN _).trans' hb);have hc9:=hb0.ag h0 (by simp))
  | (go_at_call 153;(obtain⟨⟨s0,hc0⟩,⟨a0,n0,c0,hc1⟩,f0,f1⟩:=hs.but hb0 (by simp));refine (zbs b o _ v _ (.bool s0) (.slice a0 n0 c0) _ hv1 hlen hc0 hc1 f0 f1).mono ?_;rintro e w2 ⟨rfl,rfl⟩))
 all_goals go_wp2
 all_goals go_ret
 all_goals refine⟨rfl,w1,v,hb0,hv1,?_⟩
 all_goals (rw[zpe];rfl))
theorem qbi (z:Int):(!decide (z<0) && decide (0<(wd 4294967296 z.natAbs).length))=decide (-z<0):=by(
 have h:=zo (B:=4294967296) (by omega) z.natAbs
 rw[Bool.eq_iff_iff]
 simp only[Bool.and_eq_true,Bool.not_eq_true',decide_eq_false_iff_not,decide_eq_true_eq]
 omega)
theorem zws (b o b' o':Nat) (z:Int) (w:World) (hs:Slot w b o) (hz:ze w b' o' z) (hlen:(wd 4294967296 z.natAbs).length<2147483648) :
   Calls prog 196 #[.pointer (some ⟨b,o,none⟩),.pointer (some ⟨b',o',none⟩)] w fun e w'=>e=.returned (.pointer (some ⟨b,o,none⟩))∧∃ w1 v,But [] w w1∧Sl .u32 w1 v (wd 4294967296 (-z).natAbs)∧w'=o9 w1 b o v (decide (-z<0)):=by(
 obtain⟨h0,v0,h1,hv⟩:=hz
 go_enter func196,ntmps196
 go_wp2
 go_region_with (first
  | (go_at_call 195;refine (zei v0 _ _ ?_ hlen).mono ?_;exact hv;rintro e w1 ⟨v,rfl,hv1,hb,-⟩;have hb0:But [] w w1:=(by first | exact hb | exact (But.refl _ _).drew.trans' hb | exact ((But.refl _ _).drewN _).trans' hb);have hc9:=hb0.ag h0 (by simp))
  | (go_at_call 153;(obtain⟨⟨s0,hc0⟩,⟨a0,n0,c0,hc1⟩,f0,f1⟩:=hs.but hb0 (by simp));refine (zbs b o _ v _ (.bool s0) (.slice a0 n0 c0) _ hv1 hlen hc0 hc1 f0 f1).mono ?_;rintro e w2 ⟨rfl,rfl⟩))
 all_goals go_wp2
 all_goals go_ret
 all_goals refine⟨rfl,w1,v,hb0,by rw[Int.natAbs_neg];exact hv1,?_⟩
 all_goals (rw[qbi];rfl))
theorem wu (B:Nat) (xs:List Nat) (k:Nat):vl B (xs.take (k+1))=vl B (xs.take k)+xs[k]?.getD 0*B^k:=by(
 rcases Nat.lt_or_ge k xs.length with h | h
 ·exact jc B xs k h
 ·rw[List.take_of_length_le h,List.take_of_length_le (by omega),List.getElem?_eq_none h];simp)
theorem zkd (B:Nat) (rs:List Nat) (k s:Nat) (hk:k<rs.length) (hz:rs[k]?.getD 0=0):vl B (rs.set k s)=vl B rs+s*B^k:=by(
 have:=fw B rs k s hk
 rw[hz,Nat.zero_mul,Nat.add_zero] at this
 exact this)
structure xw (k:IntKind) (w:World) (g:Nat) (rs:List Nat):Prop where
 row:Row k w g rs
 ints:0<rs.length→Ints k w g
theorem zvj (k:IntKind) (w:World) (n:Nat) (t:TypeId):Ints k (w.alloc (.cells (madeCells #[.int k 0] n) t)) w.heap.size:=fun i v hv=>by
 rw[World.cell?_alloc_new] at hv
 unfold madeCells at hv
 rw[Array.getElem?_map] at hv
 obtain⟨x,-,rfl⟩:=Option.map_eq_some_iff.1 hv
 exact⟨0,by simp[Nat.mod_one]⟩
theorem xw.made (k:IntKind) (w:World) (n:Nat) (t:TypeId):xw k (w.alloc (.cells (madeCells #[.int k 0] n) t)) w.heap.size (List.replicate n 0):=⟨Row.made k w n t,fun _=>zvj k w n t⟩
theorem xw.set {k:IntKind} {w:World} {g:Nat} {rs:List Nat} (h:xw k w g rs) (i:Nat) (hi:i<rs.length) (t:Nat):xw k (w.setCell ⟨g,i,none⟩ (.int k t)) g (rs.set i t):=⟨h.row.set i hi t,fun h0=>(h.ints (by rw[List.length_set] at h0;exact h0)).set i t⟩
theorem xw.sl {k:IntKind} {w:World} {g:Nat} {rs:List Nat} (h:xw k w g rs) (cap:Nat) (hc:rs.length≤cap):Sl k w (.slice (some ⟨g,0,none⟩) rs.length cap) rs:=Sl.mk g 0 cap hc (fun i hi=>by rw[Nat.zero_add];exact (h.row i hi).1) h.ints
theorem xw.lt {k:IntKind} {w:World} {g:Nat} {rs:List Nat} (h:xw k w g rs) (h0:0<rs.length):g<w.heap.size:=ai (h.row 0 h0).1
theorem xw.but {k:IntKind} {w w':World} {g:Nat} {rs:List Nat} {l:List Nat} (h:xw k w g rs) (hb:But l w w') (hn:g ∉ l):xw k w' g rs:=⟨fun i hi=>by
 have hl:=ai (h.row i hi).1
 exact⟨hb.ag (h.row i hi).1 hn,(hb.frozen (p:=⟨g,i,none⟩) hl hn).trans (h.row i hi).2⟩,fun h0=>(h.ints h0).but hb (h.lt h0) hn⟩
theorem xw.drewN {k:IntKind} {w:World} {g:Nat} {rs:List Nat} (h:xw k w g rs) (q:Nat):xw k (w.drewN q) g rs:=h.but ((But.refl [] _).drewN q) (by simp)
/-! ### sums -/
structure zqj (xs ys rs:List Nat) (k c:Nat):Prop where
 len:rs.length=xs.length+1
 mem:∀ x ∈ rs,x<4294967296
 car:c≤1
 val:vl 4294967296 rs+c*4294967296^k=vl 4294967296 (xs.take k)+vl 4294967296 (ys.take k)
 zero:∀ j,k≤j→rs[j]?.getD 0=0
theorem zqj.start (xs ys:List Nat):zqj xs ys (List.replicate (xs.length+1) 0) 0 0 :=
 ⟨by simp,fun x hx=>by rw[List.mem_replicate] at hx;omega,by omega,by simp[jd,vl],fun j _=>by rw[List.getElem?_replicate];split <;> rfl⟩
theorem zqj.step {xs ys rs:List Nat} {k c:Nat} (h:zqj xs ys rs k c) (hk:k<xs.length) (hx:xs[k]?.getD 0<4294967296) (hy:ys[k]?.getD 0<4294967296) (t:Nat) (ht:t=c+xs[k]?.getD 0+ys[k]?.getD 0):zqj xs ys (rs.set k (t%4294967296)) (k+1) (t/4294967296):=by(
 have hl:=h.len
 refine⟨by rw[List.length_set];exact hl,mem_set h.mem _ _ (Nat.mod_lt _ (by omega)),by have:=h.car;omega,?_,fun j hj=>by rw[List.getElem?_set_ne (by omega)];exact h.zero j (by omega)⟩
 rw[zkd _ rs k _ (by omega) (h.zero k (Nat.le_refl _)),wu,wu,Nat.pow_succ]
 have hv:=h.val
 have he:=Nat.div_add_mod t 4294967296
 have h3:c+xs[k]?.getD 0+ys[k]?.getD 0=4294967296*(t/4294967296)+t%4294967296:=by omega
 have h2:(c+xs[k]?.getD 0+ys[k]?.getD 0)*4294967296^k=(4294967296*(t/4294967296)+t%4294967296)*4294967296^k:=by rw[h3]
 generalize (4294967296:Nat)^k=P at *
 generalize t/4294967296=q at *
 generalize t%4294967296=s at *
 generalize vl 4294967296 rs=R at *
 generalize vl 4294967296 (xs.take k)=V1 at *
 generalize vl 4294967296 (ys.take k)=V2 at *
 grind)
theorem zqj.fin {xs ys rs:List Nat} {c:Nat} (h:zqj xs ys rs xs.length c) (hy:ys.length≤xs.length):vl 4294967296 (rs.set xs.length c)=vl 4294967296 xs+vl 4294967296 ys∧(∀ x ∈ rs.set xs.length c,x<4294967296):=by(
 refine⟨?_,mem_set h.mem _ _ (by have:=h.car;omega)⟩
 have hv:=h.val
 rw[List.take_length,List.take_of_length_le hy] at hv
 rw[zkd _ rs _ _ (by have:=h.len;omega) (h.zero _ (Nat.le_refl _)),hv])
/-! ### differences -/
structure zqf (xs ys rs:List Nat) (k c:Nat):Prop where
 len:rs.length=xs.length
 mem:∀ x ∈ rs,x<4294967296
 car:c≤1
 val:vl 4294967296 rs+vl 4294967296 (ys.take k)=vl 4294967296 (xs.take k)+c*4294967296^k
 zero:∀ j,k≤j→rs[j]?.getD 0=0
theorem zqf.start (xs ys:List Nat):zqf xs ys (List.replicate xs.length 0) 0 0 :=
 ⟨by simp,fun x hx=>by rw[List.mem_replicate] at hx;omega,by omega,by simp[jd,vl],fun j _=>by rw[List.getElem?_replicate];split <;> rfl⟩
theorem zqf.step {xs ys rs:List Nat} {k c:Nat} (h:zqf xs ys rs k c) (hk:k<xs.length) (s c':Nat) (hs:s<4294967296) (hc:c'≤1) (e:s+c+ys[k]?.getD 0=xs[k]?.getD 0+4294967296*c'):zqf xs ys (rs.set k s) (k+1) c':=by(
 have hl:=h.len
 refine⟨by rw[List.length_set];exact hl,mem_set h.mem _ _ hs,hc,?_,fun j hj=>by rw[List.getElem?_set_ne (by omega)];exact h.zero j (by omega)⟩
 rw[zkd _ rs k _ (by omega) (h.zero k (Nat.le_refl _)),wu,wu,Nat.pow_succ]
 have hv:=h.val
 have h2:(s+c+ys[k]?.getD 0)*4294967296^k=(xs[k]?.getD 0+4294967296*c')*4294967296^k:=by rw[e]
 generalize (4294967296:Nat)^k=P at *
 generalize vl 4294967296 rs=R at *
 generalize vl 4294967296 (xs.take k)=V1 at *
 generalize vl 4294967296 (ys.take k)=V2 at *
 grind)
theorem zqf.fin {xs ys rs:List Nat} {c:Nat} (h:zqf xs ys rs xs.length c) (hy:ys.length≤xs.length) (hle:vl 4294967296 ys≤vl 4294967296 xs):vl 4294967296 rs=vl 4294967296 xs-vl 4294967296 ys:=by(
 have hv:=h.val
 rw[List.take_length,List.take_of_length_le hy] at hv
 have h1:=mg (by omega:0<4294967296) rs h.mem
 rw[h.len] at h1
 rcases Nat.eq_zero_or_pos c with h0 | h0
 ·rw[h0] at hv;omega
 ·have:4294967296^xs.length≤c*4294967296^xs.length:=Nat.le_mul_of_pos_left _ h0
  omega)
/-! ### shifts -/
theorem zxm (B Y:Nat):∀ (n:Nat) (rs:List Nat),rs.length=n→(∀ j,j<n→rs[j]?.getD 0=Y/B^j%B)→vl B rs=Y%B^n:=by(
 intro n
 induction n with
 | zero =>
  intro rs h _
  have:rs=[]:=List.length_eq_zero_iff.1 h
  subst this;simp[vl,Nat.mod_one]
 | succ n ih =>
  intro rs h hd
  have e:=jc B rs n (by omega)
  rw[List.take_of_length_le (by omega)] at e
  rw[e,ih (rs.take n) (by rw[List.length_take];omega) (fun j hj=>by rw[List.getElem?_take_of_lt hj];exact hd j (by omega)),hd n (by omega),Nat.pow_succ,Nat.mod_mul,Nat.mul_comm (Y/B^n%B)])
theorem zdp (wx:World) (n:Nat) (h:n<2147483648):(Instr.makeSlice 109 (.int .i64 (n:Int)) (.int .i64 (n:Int))).run prog wx=.ok (.slice (some ⟨wx.heap.size,0,none⟩) n n) (wx.alloc (.cells (madeCells #[.int .u32 0] n) 238)):=by(
 obtain⟨ti,hi,hz,hs,hbt⟩:=zdh
 have hmk:=run_make (P:=prog) wx 109 238 ti (.int .u32 0) underlying109 hi hz .i64 .i64 (n:Int) (n:Int) (by omega) (by omega) (by rw[hbt];omega) (by omega)
 rw[hs,Int.toNat_natCast,Nat.mul_one] at hmk
 exact hmk)
theorem zem (wx:World) (n:Nat) (h:n<1073741824):(Instr.makeSlice 109 (.int .i64 ((n:Int)+1)) (.int .i64 ((n:Int)+1))).run prog wx=.ok (.slice (some ⟨wx.heap.size,0,none⟩) (n+1) (n+1)) (wx.alloc (.cells (madeCells #[.int .u32 0] (n+1)) 238)):=zdp wx (n+1) (by omega)
theorem zqz (wx:World) (n:Nat) (h:n<1073741824):(Instr.makeSlice 109 (.int .i64 ((n:Int)+2)) (.int .i64 ((n:Int)+2))).run prog wx=.ok (.slice (some ⟨wx.heap.size,0,none⟩) (n+2) (n+2)) (wx.alloc (.cells (madeCells #[.int .u32 0] (n+2)) 238)):=zdp wx (n+2) (by omega)
theorem zdz (va vb:Value) (m n:Nat) (w:World) (ha:Sl .u32 w va (wd 4294967296 m)) (hb:Sl .u32 w vb (wd 4294967296 n)) (hla:(wd 4294967296 m).length<2147483648) (hlb:(wd 4294967296 n).length<2147483648) :
   Calls prog 163 #[va,vb] w fun e w'=>e=.returned (.int .i64 (zz m n))∧∃ q,w'=w.drewN q:=by(
 have mm:=zt (B:=4294967296) (by omega) m
 have mn:=zt (B:=4294967296) (by omega) n
 have em:=ja (B:=4294967296) (by omega) m
 have en:=ja (B:=4294967296) (by omega) n
 have lt1:=zpl (B:=4294967296) (by omega) m n
 have lt2:=zpl (B:=4294967296) (by omega) n m
 generalize wd 4294967296 m=xs at *
 generalize wd 4294967296 n=ys at *
 have A:=af em
 have B:=af en
 have C:=af mm
 have D:=af mn
 clear em en mm mn
 by_cases hne:xs.length=ys.length
 ·(
 rcases ha.open with ⟨rfl,a,cap,rfl⟩|⟨h0,b,off,cap,rfl,hc,hbl,hcell⟩
 ·(
 have:ys=[]:=List.length_eq_zero_iff.1 (by simpa using hne.symm)
 subst this
 obtain⟨b',cap',rfl,-,-⟩:=hb
 have e0:zz m n=0:=by
  have:=ae A;have:=ae B
  simp only[vl] at *
  simp[zz,← ae A,← ae B]
 have E:=af e0
 clear e0 lt1 lt2
 go_enter func163,ntmps163
 go_wp2
 refine wp_loop_rounds 1 ?_
 rw[rounds_succ]
 go_wp2
 go_ret
 exact⟨by rw[ae E];rfl,0,rfl⟩)
 ·(
 rcases hb.open with ⟨rfl,a,cap',rfl⟩|⟨h0',b',off',cap',rfl,hc',hbl',hcell'⟩
 ·simp at hne;simp[hne] at h0
 ·(
 clear ha hb lt1 lt2
 have hne':((xs.length:Int) != (ys.length:Int))=false:=by simp[hne]
 have N:=af hne
 clear hne
 go_enter func163,ntmps163
 go_wp2
 go_loopw [5] (fun i w'=>∃ k:Nat,k≤xs.length∧i=.int .i64 ((k:Int)-1)∧Hid (xs.drop k=ys.drop k)∧∃ q,w'=w.drewN q) (fun i _=>(intOf i+1).toNat)
 case atStart=>exact⟨xs.length,Nat.le_refl _,rfl,by show _=_;rw[List.drop_length,ae N,List.drop_length],0,rfl⟩
 case round =>(
 obtain⟨k,hk,rfl,hd,q,rfl⟩:=hrel
 by_cases hk0:k=0
 ·(
 subst hk0
 have e0:zz m n=0:=by
  have h1:=ae hd
  simp only[List.drop_zero] at h1
  have:m=n:=by rw[← ae A,← ae B,h1]
  simp[zz,this]
 have E:=af e0
 clear e0
 go_wp2
 go_ret
 exact⟨by rw[ae E];rfl,q,rfl⟩)
 ·(
 obtain⟨i,rfl⟩:∃ i,k=i+1:=⟨k-1,by omega⟩
 have hil:i<ys.length:=by rw[← ae N];omega
 have c1:=hcell i (by omega)
 have c2:=hcell' i hil
 rw[show (((i+1:Nat):Int)-1)=(i:Int) from by omega]
 clear hcell hcell'
 have P1:=af (fun h:xs[i]?.getD 0<ys[i]?.getD 0=>zok (B:=4294967296) (by omega) xs ys i (by omega) hil (ae C) (ae hd) h)
 have P2:=af (fun h:ys[i]?.getD 0<xs[i]?.getD 0=>zok (B:=4294967296) (by omega) ys xs i hil (by omega) (ae D) (ae hd).symm h)
 have P3:=af (fun h:xs[i]?.getD 0=ys[i]?.getD 0=>znw xs ys i (by omega) hil (ae hd) h)
 generalize xs[i]?.getD 0=x at *
 generalize ys[i]?.getD 0=y at *
 by_cases hxy:x=y
 ·(
 have n1:((x:Int) != (y:Int))=false:=by simp[hxy]
 have G:=af hxy
 clear hxy
 go_wp2
 go_quiet (fail)
 go_wp2
 go_roundw
 case rel=>exact⟨i,by omega,rfl,ae P3 (ae G),_,rfl⟩
 case measure=>simp[intOf])
 ·(
 have n1:((x:Int) != (y:Int))=true:=by simp;omega
 by_cases hlt:x<y
 ·(
 have e0:zz m n=-1:=by
  have:=ae P1 hlt
  rw[ae A,ae B] at this
  simp[zz,this]
 have E:=af e0
 clear e0
 go_wp2
 go_quiet (fail)
 go_wp2
 go_quiet (fail)
 go_wp2
 go_ret
 exact⟨by rw[ae E];rfl,dr2 _ _ _ _⟩)
 ·(
 have e0:zz m n=1:=by
  have:=ae P2 (by omega)
  rw[ae A,ae B] at this
  simp only[zz]
  rw[if_neg (by omega),if_neg (by omega)]
 have E:=af e0
 clear e0
 go_wp2
 go_quiet (fail)
 go_wp2
 go_quiet (fail)
 go_wp2
 go_ret
 exact⟨by rw[ae E];rfl,dr2 _ _ _ _⟩)))))))
 ·(
 obtain⟨a,cap,rfl,-,-⟩:=ha
 obtain⟨b',cap',rfl,-,-⟩:=hb
 have n1:((xs.length:Int) != (ys.length:Int))=true:=by simp;omega
 by_cases hlt:xs.length<ys.length
 ·(
 have e0:zz m n=-1:=by simp[zz,lt1 hlt]
 have E:=af e0
 clear e0 lt1 lt2
 go_enter func163,ntmps163
 go_wp2
 go_ret
 exact⟨by rw[ae E];rfl,0,rfl⟩)
 ·(
 have e0:zz m n=1:=by
  have:=lt2 (by omega)
  simp only[zz]
  rw[if_neg (by omega),if_neg (by omega)]
 have E:=af e0
 clear e0 lt1 lt2
 go_enter func163,ntmps163
 go_wp2
 go_ret
 exact⟨by rw[ae E];rfl,0,rfl⟩)))
theorem zod (va vb:Value) (xs ys:List Nat) (w:World) (ha:Sl .u32 w va xs) (hb:Sl .u32 w vb ys) (mx:∀ x ∈ xs,x<4294967296) (my:∀ x ∈ ys,x<4294967296) (hle:ys.length≤xs.length) (hl:xs.length<1073741824) (u v:Value) (huv:(u=va∧v=vb)∨(ys.length<xs.length∧u=vb∧v=va)) :
   Calls prog 199 #[u,v] w fun e w'=>∃ v',e=.returned v'∧Sl .u32 w' v' (wd 4294967296 (vl 4294967296 xs+vl 4294967296 ys))∧But [] w w'∧o8 w.heap.size v':=by(
 have hmk:=fun wx=>zem wx xs.length hl
 have HCX:Hid (∀ W,But [] w W→∀ i,i<xs.length→∃ b off c,va=.slice (some ⟨b,off,none⟩) xs.length c∧W.cell? ⟨b,off+i,none⟩=some (.int .u32 (xs[i]?.getD 0:Nat))):=fun W hbw i hi=>by
  rcases (ha.ah hbw).open with ⟨e,-⟩|⟨-,b,off,c,e,-,-,h⟩
  ·rw[e] at hi;simp at hi
  ·exact⟨b,off,c,e,h i hi⟩
 have HCY:Hid (∀ W,But [] w W→∀ i,i<ys.length→∃ b off c,vb=.slice (some ⟨b,off,none⟩) ys.length c∧W.cell? ⟨b,off+i,none⟩=some (.int .u32 (ys[i]?.getD 0:Nat))):=fun W hbw i hi=>by
  rcases (hb.ah hbw).open with ⟨e,-⟩|⟨-,b,off,c,e,-,-,h⟩
  ·rw[e] at hi;simp at hi
  ·exact⟨b,off,c,e,h i hi⟩
 obtain⟨a1,c1,rfl,-,-⟩:=ha
 obtain⟨a2,c2,rfl,-,-⟩:=hb
 have MX:=af mx
 have MY:=af my
 have HLE:=af hle
 clear mx my
 rcases huv with ⟨rfl,rfl⟩|⟨hlt,rfl,rfl⟩
 all_goals(
 go_enter func199,ntmps199
 go_wp2
 go_loopw [6,7] (fun c i wr=>∃ (k cN:Nat) (rs:List Nat),k≤xs.length∧i=.int .i64 k∧c=.int .u64 cN∧cN≤1∧rs.length=xs.length+1∧Hid (zqj xs ys rs k cN∧But [] w wr∧xw .u32 wr w.heap.size rs)) (fun _ i _=>xs.length-(intOf i).toNat)
 case atStart=>exact⟨0,0,List.replicate (xs.length+1) 0,Nat.zero_le _,rfl,rfl,by omega,by simp,zqj.start xs ys,(But.refl _ _).alloc _,xw.made _ _ _ _⟩
 case round =>(
 obtain⟨k,cN,rs,hk,rfl,rfl,hcN,hrl,HI⟩:=hrel
 rename World=>wr
 by_cases hlt':k<xs.length
 ·(
 obtain⟨b1,o1,d1,e1,cx⟩:=ae HCX wr (ae HI).2.1 k hlt'
 simp only[Value.slice.injEq] at e1
 obtain⟨rfl,-,-⟩:=e1
 have hxB:xs[k]?.getD 0<4294967296:=cf (ae MX) (by omega) k
 have hyB:ys[k]?.getD 0<4294967296:=cf (ae MY) (by omega) k
 obtain⟨cr,fr⟩:=(ae HI).2.2.row k (by omega)
 have ST:=af ((ae HI).1.step hlt' hxB hyB _ rfl)
 have HSET:=af ((ae HI).2.2.set k (by omega) ((cN+xs[k]?.getD 0+ys[k]?.getD 0)%4294967296))
 have HB:=af (ae HI).2.1
 clear HI
 by_cases hly:k<ys.length
 ·(
 obtain⟨b2,o2,d2,e2,cy⟩:=ae HCY wr (ae HB) k hly
 simp only[Value.slice.injEq] at e2
 obtain⟨rfl,-,-⟩:=e2
 generalize xs[k]?.getD 0=x at *
 generalize ys[k]?.getD 0=y at *
 generalize rs[k]?.getD 0=r at cr
 obtain⟨s,hs⟩:∃ s,s=(cN+x+y)%4294967296:=⟨_,rfl⟩
 obtain⟨c',hc'⟩:∃ c',c'=(cN+x+y)/4294967296:=⟨_,rfl⟩
 rw[← hs] at ST HSET
 rw[← hc'] at ST
 have hc1:c'≤1:=by omega
 have f1:((cN:Int)+(x:Int)+(y:Int))%4294967296=(s:Int):=by omega
 have f2:((cN:Int)+(x:Int)+(y:Int))/4294967296=(c':Int):=by omega
 clear hs hc'
 go_wp2
 refine⟨⟨k+1,c',rs.set k s,by omega,by go_num,rfl,hc1,by rw[List.length_set];exact hrl,ae ST,(ae HB).setCell (.inr (Nat.le_refl _)) _,ae HSET⟩,?_⟩
 simp[intOf];omega)
 ·(
 have hy0:ys[k]?.getD 0=0:=by rw[List.getElem?_eq_none (by omega)];rfl
 rw[hy0] at ST HSET
 generalize xs[k]?.getD 0=x at *
 generalize rs[k]?.getD 0=r at cr
 obtain⟨s,hs⟩:∃ s,s=(cN+x+0)%4294967296:=⟨_,rfl⟩
 obtain⟨c',hc'⟩:∃ c',c'=(cN+x+0)/4294967296:=⟨_,rfl⟩
 rw[← hs] at ST HSET
 rw[← hc'] at ST
 have hc1:c'≤1:=by omega
 have f1:((cN:Int)+(x:Int))%4294967296=(s:Int):=by omega
 have f2:((cN:Int)+(x:Int))/4294967296=(c':Int):=by omega
 clear hs hc' hy0 hyB
 go_wp2
 refine⟨⟨k+1,c',rs.set k s,by omega,by go_num,rfl,hc1,by rw[List.length_set];exact hrl,ae ST,(ae HB).setCell (.inr (Nat.le_refl _)) _,ae HSET⟩,?_⟩
 simp[intOf];omega))
 ·(
 have hke:k=xs.length:=by omega
 subst hke
 obtain⟨cr,fr⟩:=(ae HI).2.2.row xs.length (by omega)
 have hset:=(ae HI).2.2.set xs.length (by omega) cN
 obtain⟨fv,fm⟩:=(ae HI).1.fin (ae HLE)
 have hsl:=hset.sl (xs.length+1) (by rw[List.length_set];omega)
 rw[List.length_set,hrl] at hsl
 have TR:=af (oh _ (rs.set xs.length cN) _ hsl fm (by rw[List.length_set];omega))
 rw[fv] at TR
 have HB:=af ((ae HI).2.1.setCell (p:=⟨w.heap.size,xs.length,none⟩) (.inr (Nat.le_refl _)) (.int .u32 (cN:Int)))
 have f1:(cN:Int)%4294967296=(cN:Int):=by omega
 clear hset fv fm hsl HI
 generalize rs[xs.length]?.getD 0=r at cr
 go_wp2_with fail
 refine (ae TR).mono ?_
 rintro e w1 ⟨v1,rfl,hv1,hw,hsb⟩
 obtain rfl:=hw.symm
 clear hw
 have FIN:=af (And.intro hv1 (dw hsb (Nat.le_refl w.heap.size)))
 clear hv1 hsb
 go_wp2
 go_ret
 exact⟨v1,rfl,(ae FIN).1,ae HB,(ae FIN).2⟩))))
theorem qcz (va vb:Value) (m n:Nat) (w:World) (ha:Sl .u32 w va (wd 4294967296 m)) (hb:Sl .u32 w vb (wd 4294967296 n)) (hla:(wd 4294967296 m).length<1073741824) (hlb:(wd 4294967296 n).length<1073741824) :
   Calls prog 199 #[va,vb] w fun e w'=>∃ v',e=.returned v'∧Sl .u32 w' v' (wd 4294967296 (m+n))∧But [] w w'∧o8 w.heap.size v':=by(
 have em:=ja (B:=4294967296) (by omega) m
 have en:=ja (B:=4294967296) (by omega) n
 rcases Nat.lt_or_ge (wd 4294967296 m).length (wd 4294967296 n).length with h | h
 ·have:=zod vb va _ _ w hb ha (zt (by omega) n) (zt (by omega) m) (by omega) hlb va vb (.inr ⟨h,rfl,rfl⟩)
  rw[em,en,Nat.add_comm] at this
  exact this
 ·have:=zod va vb _ _ w ha hb (zt (by omega) m) (zt (by omega) n) h hla va vb (.inl ⟨rfl,rfl⟩)
  rw[em,en] at this
  exact this)
theorem zxq (va vb:Value) (xs ys:List Nat) (w:World) (ha:Sl .u32 w va xs) (hb:Sl .u32 w vb ys) (mx:∀ x ∈ xs,x<4294967296) (my:∀ x ∈ ys,x<4294967296) (hle:ys.length≤xs.length) (hl:xs.length<1073741824) (hv:vl 4294967296 ys≤vl 4294967296 xs) :
   Calls prog 200 #[va,vb] w fun e w'=>∃ v',e=.returned v'∧Sl .u32 w' v' (wd 4294967296 (vl 4294967296 xs-vl 4294967296 ys))∧But [] w w'∧o8 w.heap.size v':=by(
 have hmk:=fun wx=>zdp wx xs.length (by omega)
 have HCX:Hid (∀ W,But [] w W→∀ i,i<xs.length→∃ b off c,va=.slice (some ⟨b,off,none⟩) xs.length c∧W.cell? ⟨b,off+i,none⟩=some (.int .u32 (xs[i]?.getD 0:Nat))):=fun W hbw i hi=>by
  rcases (ha.ah hbw).open with ⟨e,-⟩|⟨-,b,off,c,e,-,-,h⟩
  ·rw[e] at hi;simp at hi
  ·exact⟨b,off,c,e,h i hi⟩
 have HCY:Hid (∀ W,But [] w W→∀ i,i<ys.length→∃ b off c,vb=.slice (some ⟨b,off,none⟩) ys.length c∧W.cell? ⟨b,off+i,none⟩=some (.int .u32 (ys[i]?.getD 0:Nat))):=fun W hbw i hi=>by
  rcases (hb.ah hbw).open with ⟨e,-⟩|⟨-,b,off,c,e,-,-,h⟩
  ·rw[e] at hi;simp at hi
  ·exact⟨b,off,c,e,h i hi⟩
 obtain⟨a1,c1,rfl,-,-⟩:=ha
 obtain⟨a2,c2,rfl,-,-⟩:=hb
 have MX:=af mx
 have MY:=af my
 have HLE:=af (And.intro hle hv)
 clear mx my hv
 go_enter func200,ntmps200
 go_wp2
 go_loopw [6,7] (fun c i wr=>∃ (k cN:Nat) (rs:List Nat),k≤xs.length∧i=.int .i64 k∧c=.int .u64 cN∧cN≤1∧rs.length=xs.length∧Hid (zqf xs ys rs k cN∧But [] w wr∧xw .u32 wr w.heap.size rs)) (fun _ i _=>xs.length-(intOf i).toNat)
 case atStart=>exact⟨0,0,List.replicate xs.length 0,Nat.zero_le _,rfl,rfl,by omega,by simp,zqf.start xs ys,(But.refl _ _).alloc _,xw.made _ _ _ _⟩
 case round =>(
 obtain⟨k,cN,rs,hk,rfl,rfl,hcN,hrl,HI⟩:=hrel
 rename World=>wr
 by_cases hlt':k<xs.length
 ·(
 obtain⟨b1,o1,d1,e1,cx⟩:=ae HCX wr (ae HI).2.1 k hlt'
 simp only[Value.slice.injEq] at e1
 obtain⟨rfl,-,-⟩:=e1
 have hxB:xs[k]?.getD 0<4294967296:=cf (ae MX) (by omega) k
 have hyB:ys[k]?.getD 0<4294967296:=cf (ae MY) (by omega) k
 obtain⟨cr,fr⟩:=(ae HI).2.2.row k (by omega)
 obtain⟨c',hc'⟩:∃ c',c'=if xs[k]?.getD 0<cN+ys[k]?.getD 0 then 1 else 0:=⟨_,rfl⟩
 obtain⟨s,hs⟩:∃ s,s=xs[k]?.getD 0+4294967296*c' - (cN+ys[k]?.getD 0):=⟨_,rfl⟩
 have hc1:c'≤1:=by rw[hc'];split <;> omega
 have hs1:s<4294967296∧s+cN+ys[k]?.getD 0=xs[k]?.getD 0+4294967296*c':=by
  rw[hs,hc'];split <;> omega
 have ST:=af ((ae HI).1.step hlt' s c' hs1.1 hc1 hs1.2)
 have HSET:=af ((ae HI).2.2.set k (by omega) s)
 have HB:=af (ae HI).2.1
 clear HI
 by_cases hly:k<ys.length
 ·(
 obtain⟨b2,o2,d2,e2,cy⟩:=ae HCY wr (ae HB) k hly
 simp only[Value.slice.injEq] at e2
 obtain⟨rfl,-,-⟩:=e2
 generalize xs[k]?.getD 0=x at *
 generalize ys[k]?.getD 0=y at *
 generalize rs[k]?.getD 0=r at cr
 obtain⟨h1,h2⟩:=hs1
 obtain⟨D,hD⟩:∃ D:Int,D=(x:Int)-(cN:Int)-(y:Int)+18446744073709551616*(c':Int):=⟨_,rfl⟩
 have g1:IntKind.u64.wrap (IntKind.u64.wrap ((x:Int)-(cN:Int))-(y:Int))=D:=by rw[IntKind.wrap_u64,IntKind.wrap_u64];rw[hc'] at hD;split at hD <;> omega
 have g2:D%4294967296=(s:Int):=by rw[hD];omega
 have g3:D/9223372036854775808=(c':Int):=by rw[hD];rw[hc'] at h2 ⊢;split <;> split at h2 <;> omega
 have d0:0≤D:=by rw[hD];omega
 clear hc' hs hD h2
 go_wp2
 refine⟨⟨k+1,c',rs.set k s,by omega,by go_num,rfl,hc1,by rw[List.length_set];exact hrl,ae ST,(ae HB).setCell (.inr (Nat.le_refl _)) _,ae HSET⟩,?_⟩
 simp[intOf];omega)
 ·(
 have hy0:ys[k]?.getD 0=0:=by rw[List.getElem?_eq_none (by omega)];rfl
 rw[hy0] at hc' hs1
 generalize xs[k]?.getD 0=x at *
 generalize rs[k]?.getD 0=r at cr
 obtain⟨h1,h2⟩:=hs1
 obtain⟨D,hD⟩:∃ D:Int,D=(x:Int)-(cN:Int)+18446744073709551616*(c':Int):=⟨_,rfl⟩
 have g1:IntKind.u64.wrap ((x:Int)-(cN:Int))=D:=by rw[IntKind.wrap_u64];rw[hc'] at hD;split at hD <;> omega
 have g2:D%4294967296=(s:Int):=by rw[hD];omega
 have g3:D/9223372036854775808=(c':Int):=by rw[hD];rw[hc'] at h2 ⊢;split <;> split at h2 <;> omega
 have d0:0≤D:=by rw[hD];omega
 clear hc' hs hD h2 hy0 hyB
 go_wp2
 refine⟨⟨k+1,c',rs.set k s,by omega,by go_num,rfl,hc1,by rw[List.length_set];exact hrl,ae ST,(ae HB).setCell (.inr (Nat.le_refl _)) _,ae HSET⟩,?_⟩
 simp[intOf];omega))
 ·(
 have hke:k=xs.length:=by omega
 subst hke
 have fv:=(ae HI).1.fin (ae HLE).1 (ae HLE).2
 have hsl:=(ae HI).2.2.sl xs.length (by omega)
 rw[hrl] at hsl
 have TR:=af (oh _ rs _ hsl (ae HI).1.mem (by omega))
 rw[fv] at TR
 have HB:=af (ae HI).2.1
 clear fv hsl HI
 go_wp2_with fail
 refine (ae TR).mono ?_
 rintro e w1 ⟨v1,rfl,hv1,hw,hsb⟩
 obtain rfl:=hw.symm
 clear hw
 have FIN:=af (And.intro hv1 (dw hsb (Nat.le_refl w.heap.size)))
 clear hv1 hsb
 go_wp2
 go_ret
 exact⟨v1,rfl,(ae FIN).1,ae HB,(ae FIN).2⟩)))
theorem zqr (va vb:Value) (m n:Nat) (w:World) (ha:Sl .u32 w va (wd 4294967296 m)) (hb:Sl .u32 w vb (wd 4294967296 n)) (hla:(wd 4294967296 m).length<1073741824) (hmn:n≤m) :
   Calls prog 200 #[va,vb] w fun e w'=>∃ v',e=.returned v'∧Sl .u32 w' v' (wd 4294967296 (m-n))∧But [] w w'∧o8 w.heap.size v':=by(
 have em:=ja (B:=4294967296) (by omega) m
 have en:=ja (B:=4294967296) (by omega) n
 have hl:(wd 4294967296 n).length≤(wd 4294967296 m).length:=aj (by omega) n _ (Nat.lt_of_le_of_lt hmn (am (by omega) m _ (Nat.le_refl _)))
 have:=zxq va vb _ _ w ha hb (zt (by omega) m) (zt (by omega) n) hl hla (by rw[em,en];exact hmn)
 rw[em,en] at this
 exact this)
theorem zzp (m:Nat) (h:m<18446744073709551616):(m=0∧wd 4294967296 m=[])∨(0<m∧m<4294967296∧wd 4294967296 m=[m])∨(4294967296≤m∧wd 4294967296 m=[m%4294967296,m/4294967296]):=by(
 rcases Nat.eq_zero_or_pos m with rfl | h0
 ·exact .inl ⟨rfl,zq _⟩
 ·(
 rcases Nat.lt_or_ge m 4294967296 with h1 | h1
 ·refine .inr (.inl ⟨h0,h1,?_⟩)
  rw[zbg (by omega) h0,Nat.mod_eq_of_lt h1,Nat.div_eq_of_lt h1,zq]
 ·refine .inr (.inr ⟨h1,?_⟩)
  rw[zbg (by omega) h0,zbg (by omega) (by omega:0<m/4294967296),Nat.mod_eq_of_lt (by omega:m/4294967296<4294967296),Nat.div_eq_of_lt (by omega:m/4294967296<4294967296),zq]))
theorem qff (a b:Nat) (ha:a<4294967296) (hb:b<4294967296):bits .or .u64 (a:Int) ((b:Int)*4294967296)=((a+b*4294967296:Nat):Int):=by(
 have e:(b:Int)*4294967296=((b*4294967296:Nat):Int):=by omega
 rw[e,bits_or_u64_nat a _ (by omega) (by omega),Nat.or_comm]
 have h:=Nat.two_pow_add_eq_or_of_lt (i:=32) (b:=a) (by omega) b
 rw[show (2:Nat)^32=4294967296 from rfl,Nat.mul_comm] at h
 rw[← h,Nat.add_comm])
theorem or_hi (a b:Nat) (ha:a<4294967296) (hb:b<4294967296):bits .or .u64 ((b:Int)*4294967296) (a:Int)=((a+b*4294967296:Nat):Int):=by(
 have e:(b:Int)*4294967296=((b*4294967296:Nat):Int):=by omega
 rw[e,bits_or_u64_nat _ a (by omega) (by omega)]
 have h:=Nat.two_pow_add_eq_or_of_lt (i:=32) (b:=a) (by omega) b
 rw[show (2:Nat)^32=4294967296 from rfl,Nat.mul_comm] at h
 rw[← h,Nat.add_comm])
theorem zbf (v:Value) (m:Nat) (w:World) (hv:Sl .u32 w v (wd 4294967296 m)) (hm:m<18446744073709551616) :
   Calls prog 229 #[v] w fun e w'=>e=.returned (.int .u64 m)∧w'=w:=by(
 rcases zzp m hm with ⟨rfl,e⟩|⟨h0,h1,e⟩|⟨h1,e⟩
 ·(
 rw[e] at hv
 obtain⟨a,cap,rfl,-,-⟩:=hv
 go_enter func229,ntmps229
 go_wp2
 go_ret
 exact⟨rfl,rfl⟩)
 ·(
 rw[e] at hv
 rcases hv.open with ⟨h,-⟩|⟨-,b,off,cap,rfl,hc,hb,hcell⟩
 ·simp at h
 ·(
 have c0:=hcell 0 (by simp)
 simp at c0
 clear hcell e hv
 go_enter func229,ntmps229
 go_wp2
 go_ret
 exact⟨rfl,rfl⟩))
 ·(
 rw[e] at hv
 rcases hv.open with ⟨h,-⟩|⟨-,b,off,cap,rfl,hc,hb,hcell⟩
 ·simp at h
 ·(
 have c0:=hcell 0 (by simp)
 have c1:=hcell 1 (by simp)
 simp at c0 c1
 clear hcell e hv
 go_enter func229,ntmps229
 go_wp2
 go_ret
 have e1:(m:Int)%4294967296=((m%4294967296:Nat):Int):=by omega
 have e2:(m:Int)/4294967296=((m/4294967296:Nat):Int):=by omega
 refine⟨?_,rfl⟩
 show Ending.returned (.int .u64 (bits .or .u64 ((m:Int)%4294967296) ((m:Int)/4294967296*4294967296)))=_
 rw[e1,e2,qff _ _ (by omega) (by omega),show m%4294967296+m/4294967296*4294967296=m from by omega])))
theorem qbl (q:Nat) (h:q<4294967296):(q:Int)%4294967296=(q:Int):=by omega
structure zeb (xs qs:List Nat) (d k r:Nat):Prop where
 len:qs.length=xs.length
 mem:∀ x ∈ qs,x<4294967296
 quo:vl 4294967296 (qs.drop k)=vl 4294967296 (xs.drop k)/d
 rem:r=vl 4294967296 (xs.drop k)%d
theorem zeb.start (xs:List Nat) (d:Nat):zeb xs (List.replicate xs.length 0) d xs.length 0 :=
 ⟨by simp,by intro x hx;rw[List.mem_replicate] at hx;omega,by simp[vl],by simp[vl]⟩
theorem zeb.step {xs qs:List Nat} {d k r:Nat} (h:zeb xs qs d (k+1) r) (hd:0<d) (hd2:d<4294967296) (hk:k<xs.length) (hx:xs[k]?.getD 0<4294967296) (t:Nat) (ht:t=xs[k]?.getD 0+r*4294967296) :
   r<4294967296∧t<18446744073709551616∧t/d<4294967296∧t%d<4294967296∧zeb xs (qs.set k (t/d)) d k (t%d):=by(
 have hr:r<d:=by rw[h.rem];exact Nat.mod_lt _ hd
 have ht2:t/d<4294967296:=by
  rw[Nat.div_lt_iff_lt_mul hd]
  have:(r+1)*4294967296≤d*4294967296:=Nat.mul_le_mul_right _ hr
  rw[Nat.mul_comm 4294967296 d]
  omega
 have htm:=Nat.mod_lt t hd
 have hkq:k<qs.length:=by rw[h.len];exact hk
 have e:vl 4294967296 (xs.drop k)=t+4294967296*(vl 4294967296 (xs.drop (k+1))/d)*d:=by
  have h1:=kg 4294967296 xs k hk
  have h2:=Nat.mod_add_div (vl 4294967296 (xs.drop (k+1))) d
  rw[← h.rem] at h2
  have h3:4294967296*vl 4294967296 (xs.drop (k+1))=4294967296*r+4294967296*(vl 4294967296 (xs.drop (k+1))/d)*d:=by
   rw[Nat.mul_assoc,Nat.mul_comm (_/d) d,← Nat.mul_add,h2]
  omega
 refine⟨by omega,by omega,ht2,by omega,by rw[List.length_set];exact h.len,mem_set h.mem _ _ ht2,?_,?_⟩
 ·rw[e,Nat.add_mul_div_right _ _ hd,kg 4294967296 _ k (by rw[List.length_set];exact hkq),List.getElem?_set_self hkq,List.drop_set_of_lt (by omega),h.quo]
  rfl
 ·rw[e,Nat.add_mul_mod_self_right])
theorem zkr (v:Value) (m d:Nat) (w:World) (hv:Sl .u32 w v (wd 4294967296 m)) (hd:0<d) (hd2:d<4294967296) (hl:(wd 4294967296 m).length<1073741824) :
   Calls prog 228 #[v,.int .u32 d] w fun e w'=>∃ v',e=.returned (.tuple #[v',.int .u32 (m%d:Nat)])∧Sl .u32 w' v' (wd 4294967296 (m/d))∧But [] w w'∧o8 w.heap.size v':=by(
 have mm:=zt (B:=4294967296) (by omega) m
 have em:=ja (B:=4294967296) (by omega) m
 generalize wd 4294967296 m=xs at *
 subst em
 have hdb:((d:Int)==0)=false:=by simp;omega
 obtain⟨ti,hi,hz,hs,hbt⟩:=zdh
 have hmk:=fun wx=>run_make (P:=prog) wx 109 238 ti (.int .u32 0) underlying109 hi hz .i64 .i64 (xs.length:Int) (xs.length:Int) (by omega) (by omega) (by rw[hbt];omega) (by omega)
 rw[hs] at hmk
 simp only[Int.toNat_natCast,Nat.mul_one] at hmk
 clear hi hz hs hbt ti
 have MM:=af mm
 clear mm
 rcases hv.open with ⟨rfl,a,cap,rfl⟩|⟨h0,b,off,cap,rfl,hc,hbl,hcell⟩
 ·(
 simp only[List.length_nil,Int.natCast_zero] at hmk
 clear MM hl
 go_enter func228,ntmps228
 go_wp2
 refine wp_loop_rounds 1 ?_
 rw[rounds_succ]
 go_wp2_with fail
 have hS:Sl .u32 (w.alloc (.cells (madeCells #[.int .u32 0] 0) 238)) (.slice (some ⟨w.heap.size,0,none⟩) 0 0) []:=Sl.mk (xs:=[]) w.heap.size 0 0 (Nat.le_refl _) (fun i hi=>by simp at hi) (fun h=>by simp at h)
 refine (oh _ [] _ hS (by simp) (by simp)).mono ?_
 rintro e w' ⟨v',rfl,hs,rfl,hfr⟩
 have HF:o8 w.heap.size v':=dw hfr (Nat.le_refl _)
 clear hfr
 go_wp2
 go_ret2
 simp only[vl,Nat.zero_div,Nat.zero_mod] at hs ⊢
 exact⟨v',rfl,hs,(But.refl _ _).alloc _,HF⟩)
 ·(
 have HC:=af hcell
 clear hcell hv
 go_enter func228,ntmps228
 go_wp2
 go_loopw [7,8] (fun r i wr=>∃ (k rN:Nat) (qs:List Nat),k≤xs.length∧i=.int .i64 ((k:Int)-1)∧r=.int .u64 rN∧rN<d∧Hid (zeb xs qs d k rN∧But [] w wr∧xw .u32 wr w.heap.size qs)) (fun _ i _=>(intOf i+1).toNat)
 case atStart=>exact⟨xs.length,0,List.replicate xs.length 0,Nat.le_refl _,rfl,rfl,hd,zeb.start xs d,(But.refl _ _).alloc _,xw.made _ _ _ _⟩
 case round =>(
 obtain⟨k,rN,qs,hk,rfl,rfl,hrN,HI⟩:=hrel
 rename World=>wr
 by_cases hk0:k=0
 ·(
 subst hk0
 go_wp2_with fail
 have hI:=ae HI
 have hS:=hI.2.2.sl xs.length (by rw[hI.1.len];exact Nat.le_refl _)
 rw[hI.1.len] at hS
 refine (oh _ qs _ hS hI.1.mem (by rw[hI.1.len];omega)).mono ?_
 rintro e w' ⟨v',rfl,hs,rfl,hfr⟩
 have HF:o8 w.heap.size v':=dw hfr (Nat.le_refl _)
 clear hfr
 go_wp2
 go_ret2
 have hq:=hI.1.quo
 have hr:=hI.1.rem
 simp only[List.drop_zero] at hq hr
 rw[hq] at hs
 exact⟨v',by rw[← hr];rfl,hs,hI.2.1,HF⟩)
 ·(
 obtain⟨i,rfl⟩:∃ i,k=i+1:=⟨k-1,by omega⟩
 rw[show (((i+1:Nat):Int)-1)=(i:Int) from by omega]
 have hil:i<qs.length:=by rw[(ae HI).1.len];omega
 have cx:=(ae HI).2.1.ag (ae HC i (by omega)) (by simp)
 have hxB:xs[i]?.getD 0<4294967296:=cf (ae MM) (by omega) i
 obtain⟨cr,fr⟩:=(ae HI).2.2.row i hil
 have ST:=af ((ae HI).1.step hd hd2 (by omega) hxB _ rfl)
 have OR:=or_hi (xs[i]?.getD 0) rN hxB (by omega)
 generalize xs[i]?.getD 0=x at *
 generalize qs[i]?.getD 0=r0 at *
 go_wp2
 have hS:=ae ST
 have hR:=(ae HI).2.2
 have e1:((x:Int)+(rN:Int)*4294967296)=((x+rN*4294967296:Nat):Int):=by omega
 rw[e1]
 generalize x+rN*4294967296=t at *
 have e2:(t:Int)/(d:Int)%4294967296=((t/d:Nat):Int):=by rw[← Int.natCast_ediv];exact qbl _ hS.2.2.1
 have e3:(t:Int)%(d:Int)=((t%d:Nat):Int):=by rw[Int.natCast_emod]
 rw[e2,e3]
 refine⟨⟨i,t%d,qs.set i (t/d),by omega,rfl,rfl,Nat.mod_lt _ hd,hS.2.2.2.2,(ae HI).2.1.setCell (by simp) _,hR.set _ hil _⟩,?_⟩
 simp[intOf]))))
theorem zxr (v:Value) (m d:Nat) (w:World) (hv:Sl .u32 w v (wd 4294967296 m)) (hd:0<d) (hd2:d<4294967296) (hl:(wd 4294967296 m).length<1073741824) :
  Calls prog 228 #[v,.int .u32 d] w fun e w'=>∃ v',e=.returned (.tuple #[v',.int .u32 (m%d:Nat)])∧Sl .u32 w' v' (wd 4294967296 (m/d))∧But [] w w' :=
 (zkr v m d w hv hd hd2 hl).mono fun _ _ ⟨v',h1,h2,h3,_⟩=>⟨v',h1,h2,h3⟩
structure zhx (S W P u0 u1 u2 v1 v2:Nat):Prop where
 s:∃ Sr,S=((u0*4294967296+u1)*4294967296+u2)*P+Sr∧Sr<P
 w:∃ Wr,W=(v1*4294967296+v2)*P+Wr∧Wr<P
 lt:S<W*4294967296
 hi:2147483648≤v1
 hv1:v1<4294967296
 hv2:v2<4294967296
 hu1:u1<4294967296
 hu2:u2<4294967296
theorem zhx.pos {S W P u0 u1 u2 v1 v2:Nat} (h:zhx S W P u0 u1 u2 v1 v2):0<P∧0<W:=by(
 obtain⟨Wr,h1,h2⟩:=h.w
 have:=h.hi
 refine⟨by omega,?_⟩
 rw[h1]
 have h3:1*P≤(v1*4294967296+v2)*P:=Nat.mul_le_mul_right _ (by omega)
 omega)
theorem zhx.top {S W P u0 u1 u2 v1 v2:Nat} (h:zhx S W P u0 u1 u2 v1 v2):u0≤v1:=by(
 obtain⟨Sr,hs,-⟩:=h.s
 obtain⟨Wr,hw,hwr⟩:=h.w
 have hP:=h.pos.1
 have hlt:=h.lt
 have h2:=h.hv2
 rcases Nat.lt_or_ge v1 u0 with hc | hc
 ·(
 exfalso
 have h3:(v1+1)*4294967296*4294967296*P≤((u0*4294967296+u1)*4294967296+u2)*P:=Nat.mul_le_mul_right _ (by omega)
 have h4:W<(v1+1)*4294967296*P:=by
  have:(v1*4294967296+v2+1)*P≤(v1+1)*4294967296*P:=Nat.mul_le_mul_right _ (by omega)
  rw[Nat.succ_mul] at this
  omega
 have h5:W*4294967296<(v1+1)*4294967296*P*4294967296:=by omega
 have h6:(v1+1)*4294967296*P*4294967296=(v1+1)*4294967296*4294967296*P:=by grind
 omega)
 ·exact hc)
theorem zhx.qhf {S W P u0 u1 u2 v1 v2:Nat} (h:zhx S W P u0 u1 u2 v1 v2):S/W<4294967296:=Nat.div_lt_of_lt_mul h.lt
theorem zhx.qgu {S W P u0 u1 u2 v1 v2:Nat} (h:zhx S W P u0 u1 u2 v1 v2) (g:Nat) (hg:g≤S/W):g*(v1*4294967296+v2)≤(u0*4294967296+u1)*4294967296+u2:=by(
 obtain⟨Sr,hs,hsr⟩:=h.s
 obtain⟨Wr,hw,hwr⟩:=h.w
 have h1:g*W≤S:=Nat.le_trans (Nat.mul_le_mul_right _ hg) (Nat.div_mul_le_self S W)
 have h2:g*(v1*4294967296+v2)*P≤g*W:=by
  have e:g*W=g*(v1*4294967296+v2)*P+g*Wr:=by rw[hw];grind
  omega
 rcases Nat.lt_or_ge ((u0*4294967296+u1)*4294967296+u2) (g*(v1*4294967296+v2)) with hc | hc
 ·exfalso
  have h3:((u0*4294967296+u1)*4294967296+u2+1)*P≤g*(v1*4294967296+v2)*P:=Nat.mul_le_mul_right _ hc
  rw[Nat.succ_mul] at h3
  omega
 ·exact hc)
structure zam (S W u0 u1 v1 g r:Nat):Prop where
 eq:u0*4294967296+u1=g*v1+r
 ge:S/W≤g
 le:g≤4294967297
theorem zam.start {S W P u0 u1 u2 v1 v2:Nat} (h:zhx S W P u0 u1 u2 v1 v2):zam S W u0 u1 v1 ((u0*4294967296+u1)/v1) ((u0*4294967296+u1)%v1):=by(
 have hv:=h.hi
 refine⟨(Nat.div_add_mod' _ _).symm,?_,?_⟩
 ·(
 rw[Nat.le_div_iff_mul_le (by omega)]
 have h1:=h.qgu (S/W) (Nat.le_refl _)
 have h2:=h.hu2
 rw[Nat.mul_add,← Nat.mul_assoc] at h1
 omega)
 ·(
 have h1:=h.top
 have h2:=h.hu1
 have h3:(u0*4294967296+u1)/v1<4294967298:=by
  rw[Nat.div_lt_iff_lt_mul (by omega)]
  omega
 omega))
theorem zam.next {S W P u0 u1 u2 v1 v2 g r:Nat} (h:zhx S W P u0 u1 u2 v1 v2) (k:zam S W u0 u1 v1 g r) (hc:4294967295<g∨r*4294967296+u2<g*v2):0<g∧zam S W u0 u1 v1 (g-1) (r+v1):=by(
 have hq:S/W<g:=by
  rcases hc with hc | hc
  ·exact Nat.lt_of_lt_of_le h.qhf hc
  ·rcases Nat.lt_or_ge (S/W) g with h1 | h1
   ·exact h1
   ·exfalso
    have h2:=h.qgu g h1
    rw[k.eq,Nat.mul_add,← Nat.mul_assoc] at h2
    omega
 have h0:0<g:=Nat.lt_of_le_of_lt (Nat.zero_le _) hq
 refine⟨h0,?_,Nat.le_sub_one_of_lt hq,Nat.le_trans (Nat.sub_le _ _) k.le⟩
 have e:=k.eq
 obtain⟨p,rfl⟩:∃ p,g=p+1:=⟨g-1,by omega⟩
 rw[Nat.succ_mul] at e
 rw[Nat.add_sub_cancel]
 omega)
theorem zam.small {S W P u0 u1 u2 v1 v2 g r:Nat} (h:zhx S W P u0 u1 u2 v1 v2) (k:zam S W u0 u1 v1 g r) (hr:4294967296≤r):g≤4294967295∧g*v2≤r*4294967296+u2:=by(
 have h1:=h.top
 have h2:=h.hu1
 have e:=k.eq
 have hg:g≤4294967295:=by
  rcases Nat.lt_or_ge 4294967295 g with hc | hc
  ·exfalso
   have h3:4294967296*v1≤g*v1:=Nat.mul_le_mul_right _ hc
   omega
  ·exact hc
 refine⟨hg,?_⟩
 have h4:g*v2≤4294967295*4294967295:=Nat.mul_le_mul hg (by have:=h.hv2;omega)
 omega)
theorem zam.fin {S W P u0 u1 u2 v1 v2 g r:Nat} (h:zhx S W P u0 u1 u2 v1 v2) (k:zam S W u0 u1 v1 g r) (hg:g≤4294967295) (ht:g*v2≤r*4294967296+u2):g=S/W∨(g=S/W+1):=by(
 obtain⟨Sr,hs,hsr⟩:=h.s
 obtain⟨Wr,hw,hwr⟩:=h.w
 have hW:=h.pos.2
 have h1:g*(v1*4294967296+v2)≤(u0*4294967296+u1)*4294967296+u2:=by
  rw[k.eq,Nat.mul_add,← Nat.mul_assoc];omega
 have h2:g*(v1*4294967296+v2)*P≤((u0*4294967296+u1)*4294967296+u2)*P:=Nat.mul_le_mul_right _ h1
 have h3:g*Wr≤g*P:=Nat.mul_le_mul_left _ (by omega)
 have h4:g*P≤W:=by
  rw[hw]
  have:g*P≤(v1*4294967296+v2)*P:=Nat.mul_le_mul_right _ (by have:=h.hi;omega)
  omega
 have h5:g*W≤S+W:=by
  have:g*W=g*(v1*4294967296+v2)*P+g*Wr:=by rw[hw];grind
  omega
 have h6:g≤S/W+1:=by
  rcases Nat.eq_zero_or_pos g with h0 | h0
  ·rw[h0];exact Nat.zero_le _
  ·obtain⟨p,rfl⟩:∃ p,g=p+1:=⟨g-1,by omega⟩
   rw[Nat.succ_mul] at h5
   have:p≤S/W:=by rw[Nat.le_div_iff_mul_le hW];omega
   exact Nat.succ_le_succ this
 have h7:=k.ge
 generalize S/W=Q at *
 omega)
/-! ### taking away -/
structure Taken (us0 us vs:List Nat) (j k c d g:Nat):Prop where
 len:us.length=us0.length
 mem:∀ x ∈ us,x<4294967296
 car:c<4294967296
 bor:d≤1
 val:vl 4294967296 us+4294967296^j*(g*vl 4294967296 (vs.take k))=vl 4294967296 us0+4294967296^(j+k)*(c+d)
 same:∀ i,j+k≤i→us[i]?.getD 0=us0[i]?.getD 0
theorem Taken.start (us vs:List Nat) (j g:Nat) (hm:∀ x ∈ us,x<4294967296):Taken us us vs j 0 0 0 g :=
 ⟨rfl,hm,by omega,by omega,by simp[vl],fun _ _=>rfl⟩
theorem Taken.step {us0 us vs:List Nat} {j k c d g:Nat} (h:Taken us0 us vs j k c d g) (hk:j+k<us0.length) (hv:vs[k]?.getD 0<4294967296) (hg:g≤4294967295) (c1 s d':Nat) (hc1:c1=c+g*vs[k]?.getD 0) (hs:s<4294967296) (hd:d'≤1) (e:s+c1%4294967296+d=us[j+k]?.getD 0+4294967296*d'):Taken us0 (us.set (j+k) s) vs j (k+1) (c1/4294967296) d' g:=by(
 have hl:=h.len
 have hcc:c1<4294967296*4294967296:=by
  have:g*vs[k]?.getD 0≤4294967295*4294967295:=Nat.mul_le_mul hg (by omega)
  have:=h.car
  omega
 refine⟨by rw[List.length_set];exact hl,mem_set h.mem _ _ hs,Nat.div_lt_of_lt_mul hcc,hd,?_,fun i hi=>by rw[List.getElem?_set_ne (by omega)];exact h.same i (by omega)⟩
 have h1:=fw 4294967296 us (j+k) s (by omega)
 have h2:=h.val
 have h3:=Nat.div_add_mod c1 4294967296
 rw[wu,show j+(k+1)=j+k+1 from by omega,Nat.pow_succ,Nat.pow_add] at *
 generalize us[j+k]?.getD 0=u at *
 generalize vs[k]?.getD 0=v at *
 generalize vl 4294967296 (us.set (j+k) s)=A at *
 generalize vl 4294967296 us=B at *
 generalize vl 4294967296 us0=D at *
 generalize vl 4294967296 (vs.take k)=E at *
 generalize c1/4294967296=hi at *
 generalize c1%4294967296=lo at *
 generalize (4294967296:Nat)^j=P at *
 generalize (4294967296:Nat)^k=Q at *
 have e2:(s+lo+d)*(P*Q)=(u+4294967296*d')*(P*Q):=by rw[e]
 have e3:(4294967296*hi+lo)*(P*Q)=(c+g*v)*(P*Q):=by rw[h3,hc1]
 grind)
/-! ### adding back -/
structure zqi (us0 us vs:List Nat) (j k c:Nat):Prop where
 len:us.length=us0.length
 mem:∀ x ∈ us,x<4294967296
 car:c≤1
 val:vl 4294967296 us+4294967296^(j+k)*c=vl 4294967296 us0+4294967296^j*vl 4294967296 (vs.take k)
 same:∀ i,j+k≤i→us[i]?.getD 0=us0[i]?.getD 0
theorem zqi.start (us vs:List Nat) (j:Nat) (hm:∀ x ∈ us,x<4294967296):zqi us us vs j 0 0 :=
 ⟨rfl,hm,by omega,by simp[vl],fun _ _=>rfl⟩
theorem zqi.step {us0 us vs:List Nat} {j k c:Nat} (h:zqi us0 us vs j k c) (hk:j+k<us0.length) (hv:vs[k]?.getD 0<4294967296) (hu:us[j+k]?.getD 0<4294967296) (c1:Nat) (hc1:c1=c+(us[j+k]?.getD 0+vs[k]?.getD 0)):zqi us0 (us.set (j+k) (c1%4294967296)) vs j (k+1) (c1/4294967296):=by(
 have hl:=h.len
 refine⟨by rw[List.length_set];exact hl,mem_set h.mem _ _ (Nat.mod_lt _ (by omega)),by have:=h.car;omega,?_,fun i hi=>by rw[List.getElem?_set_ne (by omega)];exact h.same i (by omega)⟩
 have h1:=fw 4294967296 us (j+k) (c1%4294967296) (by omega)
 have h2:=h.val
 have h3:=Nat.div_add_mod c1 4294967296
 rw[wu,show j+(k+1)=j+k+1 from by omega,Nat.pow_succ,Nat.pow_add] at *
 generalize us[j+k]?.getD 0=u at *
 generalize vs[k]?.getD 0=v at *
 generalize vl 4294967296 (us.set (j+k) (c1%4294967296))=A at *
 generalize vl 4294967296 us=B at *
 generalize vl 4294967296 us0=D at *
 generalize vl 4294967296 (vs.take k)=E at *
 generalize c1/4294967296=hi at *
 generalize c1%4294967296=lo at *
 generalize (4294967296:Nat)^j=P at *
 generalize (4294967296:Nat)^k=Q at *
 have e3:(4294967296*hi+lo)*(P*Q)=(c+(u+v))*(P*Q):=by rw[h3,hc1]
 grind)
theorem zgp (us:List Nat) (m:Nat) (h:vl 4294967296 us<4294967296^m):∀ i,m≤i→us[i]?.getD 0=0:=fun i hi=>by
 rcases Nat.lt_or_ge i us.length with hl | hl
 ·have e:=zac 4294967296 us i hl
  rcases Nat.eq_zero_or_pos (us[i]?.getD 0) with h0 | h0
  ·exact h0
  ·exfalso
   have h1:4294967296^i*1≤4294967296^i*(us[i]?.getD 0+4294967296*vl 4294967296 (us.drop (i+1))):=Nat.mul_le_mul_left _ (by omega)
   have h2:4294967296^m≤4294967296^i:=Nat.pow_le_pow_right (by omega) hi
   omega
 ·rw[List.getElem?_eq_none hl];rfl
theorem pz (us:List Nat) (m:Nat) (hz:∀ i,m≤i→us[i]?.getD 0=0):vl 4294967296 (us.drop m)=0:=zbi _ _ (fun j _=>by rw[List.getElem?_drop];exact hz _ (by omega))
theorem pq (us:List Nat) (m:Nat) (hm:m≤us.length):vl 4294967296 us=vl 4294967296 (us.take m)+4294967296^m*vl 4294967296 (us.drop m):=by(
 have:=congrArg (vl 4294967296) (List.take_append_drop m us)
 rw[qg,List.length_take,Nat.min_eq_left hm] at this
 exact this.symm)
theorem j6 (us:List Nat) (m:Nat) (hm:m≤us.length) (hx:∀ x ∈ us,x<4294967296):vl 4294967296 (us.take m)<4294967296^m:=by(
 have:=mg (by omega:0<4294967296) (us.take m) (fun x h=>hx x (List.mem_of_mem_take h))
 rw[List.length_take,Nat.min_eq_left hm] at this
 exact this)
theorem zxl (us:List Nat) (m:Nat) (hm:m≤us.length) (hx:∀ x ∈ us,x<4294967296) (hz:∀ i,m≤i→us[i]?.getD 0=0):vl 4294967296 us<4294967296^m:=by
 rw[pq us m hm,pz us m hz,Nat.mul_zero,Nat.add_zero]
 exact j6 us m hm hx
theorem zqo (us:List Nat) (m:Nat) (hm:m<us.length) (hz:∀ i,m+1≤i→us[i]?.getD 0=0):vl 4294967296 us=vl 4294967296 (us.take m)+4294967296^m*us[m]?.getD 0:=by
 rw[pq us m (by omega),kg 4294967296 us m hm,pz us (m+1) hz,Nat.mul_zero,Nat.add_zero]
theorem qdo (us vs:List Nat) (j n:Nat) (hn:vs.length=n+2) (hj:j+(n+2)<us.length) (hu:∀ x ∈ us,x<4294967296) (hv:∀ x ∈ vs,x<4294967296) (hlt:vl 4294967296 us<vl 4294967296 vs*4294967296^j*4294967296) (hhi:2147483648≤vs[n+1]?.getD 0) :
   zhx (vl 4294967296 us) (vl 4294967296 vs*4294967296^j) (4294967296^(j+n)) (us[j+(n+2)]?.getD 0) (us[j+(n+2)-1]?.getD 0) (us[j+(n+2)-2]?.getD 0) (vs[n+1]?.getD 0) (vs[n]?.getD 0):=by(
 have bu:=fun i=>cf hu (by omega:0<4294967296) i
 have bv:=fun i=>cf hv (by omega:0<4294967296) i
 have hV:=mg (by omega:0<4294967296) vs hv
 have hS:vl 4294967296 us<4294967296^(j+(n+2)+1):=by
  refine Nat.lt_of_lt_of_le hlt ?_
  rw[show 4294967296^(j+(n+2)+1)=4294967296^(n+2)*4294967296^j*4294967296 from by rw[← Nat.pow_add,← Nat.pow_succ];congr 1;omega]
  rw[hn] at hV
  exact Nat.mul_le_mul_right _ (Nat.mul_le_mul_right _ (Nat.le_of_lt hV))
 have hz:=zgp us _ hS
 refine⟨⟨vl 4294967296 (us.take (j+n)),?_,j6 us _ (by omega) hu⟩,⟨vl 4294967296 (vs.take n)*4294967296^j,?_,?_⟩,hlt,hhi,bv _,bv _,bu _,bu _⟩
 ·rw[pq us (j+n) (by omega),kg _ us (j+n) (by omega),kg _ us (j+n+1) (by omega),kg _ us (j+n+1+1) (by omega),pz us (j+n+1+1+1) (fun i hi=>hz i (by omega))]
  rw[show j+(n+2)=j+n+1+1 from by omega,show j+n+1+1-1=j+n+1 from by omega,show j+n+1+1-2=j+n from by omega]
  grind
 ·rw[pq vs n (by omega),kg _ vs n (by omega),kg _ vs (n+1) (by omega),pz vs (n+1+1) (fun i hi=>by rw[List.getElem?_eq_none (by omega)];rfl),Nat.pow_add]
  grind
 ·rw[Nat.pow_add,Nat.mul_comm (4294967296^j)]
  exact Nat.mul_lt_mul_of_pos_right (j6 vs n (by omega) hv) (Nat.pow_pos (by omega)))
theorem zto {us0 us vs:List Nat} {j n c d g u:Nat} (h:Taken us0 us vs j n c d g) (hn:vs.length=n) (hj:j+n<us0.length) (hu:us[j+n]?.getD 0=u) (hge:c+d≤u) (hg:vl 4294967296 us0/(vl 4294967296 vs*4294967296^j)≤g) (hW:0<vl 4294967296 vs*4294967296^j) :
   g=vl 4294967296 us0/(vl 4294967296 vs*4294967296^j)∧vl 4294967296 (us.set (j+n) (u-c-d))=vl 4294967296 us0%(vl 4294967296 vs*4294967296^j):=by(
 have h1:=fw 4294967296 us (j+n) (u-c-d) (by rw[h.len];exact hj)
 have h2:=h.val
 rw[hu] at h1
 rw[List.take_of_length_le (by omega)] at h2
 have e:vl 4294967296 (us.set (j+n) (u-c-d))+g*(vl 4294967296 vs*4294967296^j)=vl 4294967296 us0:=by
  obtain⟨z,hz⟩:∃ z,u=c+d+z:=⟨u-(c+d),by omega⟩
  rw[show u-c-d=z from by omega] at h1 ⊢
  subst hz
  generalize vl 4294967296 (us.set (j+n) z)=X at *
  generalize vl 4294967296 us=Y at *
  generalize vl 4294967296 us0=S at *
  generalize (4294967296:Nat)^(j+n)=Q at *
  generalize (4294967296:Nat)^j=P at *
  grind
 generalize vl 4294967296 vs*4294967296^j=W at *
 generalize vl 4294967296 us0=S at *
 have hq:g≤S/W:=by rw[Nat.le_div_iff_mul_le hW];omega
 have hqe:g=S/W:=Nat.le_antisymm hq hg
 refine⟨hqe,?_⟩
 have h3:=Nat.div_add_mod S W
 rw[← hqe,Nat.mul_comm] at h3
 omega)
theorem ztn {us0 us vs:List Nat} {j n c d g u:Nat} (h:Taken us0 us vs j n c d g) (hn:vs.length=n) (hj:j+n<us0.length) (hu:us[j+n]?.getD 0=u) (hlt:u<c+d) (hg:g=vl 4294967296 us0/(vl 4294967296 vs*4294967296^j)∨g=vl 4294967296 us0/(vl 4294967296 vs*4294967296^j)+1) (hS:vl 4294967296 us0<4294967296^(j+n+1)) :
   g=vl 4294967296 us0/(vl 4294967296 vs*4294967296^j)+1∧vl 4294967296 (us.set (j+n) (u+4294967296-(c+d)))+vl 4294967296 vs*4294967296^j=vl 4294967296 us0%(vl 4294967296 vs*4294967296^j)+4294967296^(j+n+1)∧(∀ x ∈ us.set (j+n) (u+4294967296-(c+d)),x<4294967296)∧(∀ i,j+n+1≤i→(us.set (j+n) (u+4294967296-(c+d)))[i]?.getD 0=0):=by(
 have hc:=h.car
 have hd:=h.bor
 have hl:=h.len
 have hz:=zgp us0 _ hS
 have hm':∀ x ∈ us.set (j+n) (u+4294967296-(c+d)),x<4294967296:=mem_set h.mem _ _ (by omega)
 have hz':∀ i,j+n+1≤i→(us.set (j+n) (u+4294967296-(c+d)))[i]?.getD 0=0:=fun i hi=>by
  rw[List.getElem?_set_ne (by omega),h.same i (by omega)];exact hz i hi
 have hlt':=zxl (us.set (j+n) (u+4294967296-(c+d))) (j+n+1) (by rw[List.length_set,hl];omega) hm' hz'
 have h1:=fw 4294967296 us (j+n) (u+4294967296-(c+d)) (by rw[h.len];exact hj)
 have h2:=h.val
 rw[hu] at h1
 rw[List.take_of_length_le (by omega)] at h2
 have e:vl 4294967296 (us.set (j+n) (u+4294967296-(c+d)))+g*(vl 4294967296 vs*4294967296^j)=vl 4294967296 us0+4294967296^(j+n+1):=by
  obtain⟨z,hz⟩:∃ z,z+(c+d)=u+4294967296:=⟨u+4294967296-(c+d),by omega⟩
  rw[show u+4294967296-(c+d)=z from by omega] at h1 ⊢
  rw[Nat.pow_succ]
  generalize vl 4294967296 (us.set (j+n) z)=X at *
  generalize vl 4294967296 us=Y at *
  generalize vl 4294967296 us0=S at *
  generalize (4294967296:Nat)^(j+n)=Q at *
  generalize (4294967296:Nat)^j=P at *
  have e2:(z+(c+d))*Q=(u+4294967296)*Q:=by rw[hz]
  grind
 refine⟨?_,?_,hm',hz'⟩
 ·(
 rcases hg with hg | hg
 ·exfalso
  have h3:=Nat.div_mul_le_self (vl 4294967296 us0) (vl 4294967296 vs*4294967296^j)
  rw[← hg] at h3
  omega
 ·exact hg)
 ·(
 have hg':g=vl 4294967296 us0/(vl 4294967296 vs*4294967296^j)+1:=by
  rcases hg with hg | hg
  ·exfalso
   have h3:=Nat.div_mul_le_self (vl 4294967296 us0) (vl 4294967296 vs*4294967296^j)
   rw[← hg] at h3
   omega
  ·exact hg
 have h3:=Nat.div_add_mod (vl 4294967296 us0) (vl 4294967296 vs*4294967296^j)
 rw[hg',Nat.succ_mul] at e
 rw[Nat.mul_comm] at h3
 omega))
theorem qcy {us0 us vs:List Nat} {j n c R W:Nat} (h:zqi us0 us vs j n c) (hn:vs.length=n) (hj:j+n<us0.length) (hz:∀ i,j+n+1≤i→us0[i]?.getD 0=0) (hW:W=vl 4294967296 vs*4294967296^j) (hWl:W≤4294967296^(j+n)) (hR:R<W) (e:vl 4294967296 us0+W=R+4294967296^(j+n+1)) :
   us[j+n]?.getD 0+c=4294967296∧vl 4294967296 (us.set (j+n) 0)=R:=by(
 have h2:=h.val
 have hl:=h.len
 rw[List.take_of_length_le (by omega)] at h2
 have hz':∀ i,j+n+1≤i→us[i]?.getD 0=0:=fun i hi=>by rw[h.same i (by omega)];exact hz i hi
 have ht:=zqo us (j+n) (by omega) hz'
 have hlo:=j6 us (j+n) (by omega) h.mem
 have h1:=fw 4294967296 us (j+n) 0 (by omega)
 rw[Nat.zero_mul,Nat.add_zero] at h1
 generalize us[j+n]?.getD 0=t at *
 rw[Nat.pow_succ] at e
 rw[Nat.mul_comm (4294967296^j),← hW] at h2
 generalize vl 4294967296 (us.take (j+n))=L at *
 generalize vl 4294967296 (us.set (j+n) 0)=X at *
 generalize vl 4294967296 us=Y at *
 generalize vl 4294967296 us0=S at *
 generalize (4294967296:Nat)^(j+n)=Q at *
 have e2:L+Q*(t+c)=R+Q*4294967296:=by grind
 have htc:t+c=4294967296:=by
  rcases Nat.lt_trichotomy (t+c) 4294967296 with hc | hc | hc
  ·exfalso
   have:Q*(t+c+1)≤Q*4294967296:=Nat.mul_le_mul_left _ hc
   rw[Nat.mul_succ] at this
   omega
  ·exact hc
  ·exfalso
   have:Q*(4294967296+1)≤Q*(t+c):=Nat.mul_le_mul_left _ hc
   rw[Nat.mul_succ] at this
   omega
 refine⟨htc,?_⟩
 rw[htc] at e2
 have:t*Q=Q*t:=Nat.mul_comm _ _
 omega)
structure zti (A V:Nat) (us qs:List Nat) (t:Nat):Prop where
 um:∀ x ∈ us,x<4294967296
 qm:∀ x ∈ qs,x<4294967296
 lt:vl 4294967296 us<V*4294967296^t
 zero:∀ j,j<t→qs[j]?.getD 0=0
 val:vl 4294967296 us+V*vl 4294967296 qs=A
theorem zti.step {A V:Nat} {us us' qs:List Nat} {j q:Nat} (h:zti A V us qs (j+1)) (hq:j<qs.length) (hq1:q=vl 4294967296 us/(V*4294967296^j)) (hV:0<V) (hm:∀ x ∈ us',x<4294967296) (hu:vl 4294967296 us'=vl 4294967296 us%(V*4294967296^j)):zti A V us' (qs.set j q) j:=by(
 have hW:0<V*4294967296^j:=Nat.mul_pos hV (Nat.pow_pos (by omega))
 have hqB:q<4294967296:=by
  rw[hq1]
  refine Nat.div_lt_of_lt_mul ?_
  have:=h.lt
  rw[Nat.pow_succ,← Nat.mul_assoc] at this
  exact this
 refine⟨hm,mem_set h.qm _ _ hqB,by rw[hu];exact Nat.mod_lt _ hW,fun i hi=>by rw[List.getElem?_set_ne (by omega)];exact h.zero i (by omega),?_⟩
 rw[zkd _ qs j q hq (h.zero j (by omega)),hu]
 have h1:=Nat.div_add_mod (vl 4294967296 us) (V*4294967296^j)
 rw[← hq1] at h1
 have h2:=h.val
 generalize vl 4294967296 us%(V*4294967296^j)=R at *
 generalize vl 4294967296 us=S at *
 generalize vl 4294967296 qs=Z at *
 generalize (4294967296:Nat)^j=P at *
 grind)
theorem zti.fin {A V:Nat} {us qs:List Nat} (h:zti A V us qs 0):vl 4294967296 qs=A/V∧vl 4294967296 us=A%V:=by(
 have h1:=h.lt
 rw[Nat.pow_zero,Nat.mul_one] at h1
 have h2:=h.val
 have hV:0<V:=by omega
 constructor
 ·rw[← h2,Nat.add_mul_div_left _ _ hV,Nat.div_eq_of_lt h1,Nat.zero_add]
 ·rw[← h2,Nat.add_mul_mod_self_left,Nat.mod_eq_of_lt h1])
end Go.Proofs.YtagmkkiagjmimaaGreatDoor
