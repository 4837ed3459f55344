/- Whole numbers of package tontinebig: wor -/
import Derived.Deep.QuietTactic
import Derived.BigQuiet
import Derived.Outline
import Derived.Deep.AppendSrc
import Derived.Deep.RegionWith
import Derived.WalkSpells
import Derived.Test.YtagmkkiagjmimaaGreatDoorSN15
namespace Go.Proofs.YtagmkkiagjmimaaGreatDoor
set_option linter.unusedVariables false
open Go.Proofs.Tryz
open Go.RowKit
set_option maxHeartbeats 1000000
theorem lv (v:Value) (xs:List Nat) (w:World) (hv:Sl .u32 w v xs) (hm:∀ x ∈ xs,x<4294967296) (hl:xs.length<2147483648) :
   Calls prog 202 #[v] w fun e w'=>∃ v',e=.returned v'∧Sl .u32 w v' (wd 4294967296 (vl 4294967296 xs))∧w'=w∧zbc v v':=by(
 rcases hv.open with ⟨rfl,a,cap,rfl⟩|⟨h0,b,off,cap,rfl,hc,hb,hcell⟩
 ·(
 go_enter func202,ntmps202
 go_wp2
 refine wp_loop_rounds 1 ?_
 rw[rounds_succ]
 go_wp2
 go_ret
 exact⟨_,rfl,by simp only[vl,zh];exact⟨a,cap,rfl,Nat.zero_le _,fun i hi=>by simp at hi,fun _ _ _ h0=>by simp at h0⟩,rfl,zfv _ _ _ _ _⟩)
 ·(
 have HI:=af (hv.ints h0)
 go_enter func202,ntmps202
 go_wp2
 go_loop [3] (fun i=>∃ n:Nat,n≤xs.length∧i=.int .i64 n∧Hid (vl 4294967296 (xs.take n)=vl 4294967296 xs)) (fun i=>(intOf i).toNat)
 case atStart=>exact⟨xs.length,Nat.le_refl _,rfl,by show _=_;simp⟩
 case round =>(
 obtain⟨n,hn,rfl,hq⟩:=hrel
 by_cases hp:n=0
 ·(
 subst hp
 go_wp2
 go_ret
 refine⟨_,rfl,?_,rfl,zfv _ _ _ _ _⟩
 rw[zfr (by omega) xs 0 hn hq.out hm (.inl rfl)]
 rw[List.take_zero]
 exact Sl.mk (xs:=[]) b off cap (Nat.zero_le _) (fun i hi=>by simp at hi) (fun _=>ae HI))
 ·(
 have hcn:=hcell (n-1) (by omega)
 by_cases hz:xs[n-1]?.getD 0=0
 ·(
 go_wp2
 refine⟨⟨n-1,by omega,by rw[Int.ofNat_sub (by omega)];rfl,?_⟩,by simp[intOf];omega⟩
 show _=_
 rw[← hq.out]
 obtain⟨k,rfl⟩:∃ k,n=k+1:=⟨n-1,by omega⟩
 rw[Nat.add_sub_cancel] at hz ⊢
 rw[oh xs k (by omega),hz,mo])
 ·(
 go_wp2
 go_ret
 refine⟨_,rfl,?_,rfl,zfv _ _ _ _ _⟩
 rw[zfr (by omega) xs n hn hq.out hm (.inr hz)]
 have hl':(xs.take n).length=n:=by simp;omega
 have h:=Sl.mk (k:=.u32) (w:=w) (xs:=xs.take n) b off cap (by omega) (fun i hi=>by rw[zhd xs n i (by omega)];exact hcell i (by omega)) (fun _=>ae HI)
 rw[hl'] at h
 exact h)))))
theorem zfs (v:Value) (xs:List Nat) (w:World) (hv:Sl .u32 w v xs) (hm:∀ x ∈ xs,x<4294967296) (hl:xs.length<2147483648) :
  Calls prog 202 #[v] w fun e w'=>∃ v',e=.returned v'∧Sl .u32 w v' (wd 4294967296 (vl 4294967296 xs))∧w'=w :=
 (lv v xs w hv hm hl).mono fun _ _ ⟨v',h1,h2,h3,_⟩=>⟨v',h1,h2,h3⟩
theorem zaq (u:Nat) (w:World) (hu:u<18446744073709551616) :
   Calls prog 201 #[.int .u64 u] w fun e w'=>∃ v',e=.returned v'∧Sl .u32 w' v' (wd 4294967296 u)∧But [] w w'∧mi w.heap.size v':=by(
 go_enter func201,ntmps201
 go_wp2_with fail
 have h0:Sl .u32 (w.alloc (.cells #[.int .u32 ((u:Int)%4294967296),.int .u32 ((u:Int)/4294967296)] 238)) (.slice (some ⟨w.heap.size,0,none⟩) 2 2) [u%4294967296,u/4294967296] :=
  Sl.mk (xs:=[u%4294967296,u/4294967296]) w.heap.size 0 2 (by simp) (fun i hi=>by
   match i,hi with
   | 0,_=>simp
   | 1,_=>simp) (fun _ i v hv=>by
   rw[World.cell?_alloc_new] at hv
   match i,hv with
   | 0,hv=>exact⟨_,(by simpa using hv.symm)⟩
   | 1,hv=>exact⟨_,(by simpa using hv.symm)⟩
   | i+2,hv=>simp at hv)
 refine (lv _ [u%4294967296,u/4294967296] _ h0 ?_ ?_).mono ?_
 ·intro x hx
  simp only[List.mem_cons,List.not_mem_nil,or_false] at hx
  omega
 ·simp
 rintro e w' ⟨v',rfl,hs,hw,hsb⟩
 obtain rfl:=hw.symm
 clear hw
 go_wp2
 go_ret
 refine⟨v',rfl,?_,(But.refl _ _).alloc _,yh hsb (Nat.le_refl _)⟩
 have e:vl 4294967296 [u%4294967296,u/4294967296]=u:=by simp only[vl];omega
 rw[e] at hs
 exact hs)
def za (w:World) (b o:Nat) (z:Int):Prop:=w.cell? ⟨b,o,none⟩=some (.bool (decide (z<0)))∧∃ v,w.cell? ⟨b,o+1,none⟩=some v∧Sl .u32 w v (wd 4294967296 z.natAbs)
theorem zcp (b o:Nat) (neg:Bool) (v:Value) (xs:List Nat) (v0 v1:Value) (w:World) (hv:Sl .u32 w v xs) (_hl:xs.length<2147483648)
   (h0:w.cell? ⟨b,o,none⟩=some v0) (h1:w.cell? ⟨b,o+1,none⟩=some v1) (f0:w.frozen? ⟨b,o,none⟩=false) (f1:w.frozen? ⟨b,o+1,none⟩=false) :
   Calls prog 153 #[.pointer (some ⟨b,o,none⟩),.bool neg,v] w fun e w'=>e=.returned (.pointer (some ⟨b,o,none⟩))∧w'=(w.setCell ⟨b,o+1,none⟩ v).setCell ⟨b,o,none⟩ (.bool (neg && decide (0<xs.length))):=by(
 obtain⟨a,cap,rfl,-,-⟩:=hv
 cases neg <;> by_cases hp:0<xs.length
 all_goals(
 go_enter func153,ntmps153
 go_wp2
 go_ret
 exact⟨rfl,by simp[hp]⟩))
theorem zco:∃ i,prog.info? 238 = some i∧i.zero=some (.int .u32 0)∧i.size=1∧i.bytes=4:=by(
 have h:(prog.info? 238).map (fun i=>(i.zero,i.size,i.bytes))=some (some (.int .u32 0),1,4):=by kernel_rfl
 obtain⟨i,hi,he⟩:=Option.map_eq_some_iff.1 h
 simp only[Prod.mk.injEq] at he
 exact⟨i,hi,he.1,he.2.1,he.2.2⟩)
theorem zhf {P:Program} (w:World) (t ty e:TypeId) (i:TypeInfo) (ht:P.underlying t=some (.slice e)) (hi:P.info? e=some i) (a:Option Addr) (c:Nat) :
   (Builtin.append_ #[t,t] ty #[.slice none 0 0,.slice a 0 c]).run P w=.ok (.slice none 0 0) w:=by(
 cases a with
 | none=>simp[Builtin.append_,run_underlying ht,sizeOf,typeInfo,hi,Builtin.lenOf,run_firstCells_none]
 | some a =>
  have hf:=run_firstCells_some (P:=P) w i.size 0 a 0 c [] (by simp) (by simp)
  simp[Builtin.append_,run_underlying ht,sizeOf,typeInfo,hi,Builtin.lenOf,hf])
theorem zdt (v:Value) (xs:List Nat) (w:World) (hv:Sl .u32 w v xs) (hl:xs.length<2147483648) :
   Calls prog 195 #[v] w fun e w'=>∃ v',e=.returned v'∧Sl .u32 w' v' xs∧But [] w w'∧mi w.heap.size v':=by(
 rcases hv.open with ⟨rfl,a,cap,rfl⟩|⟨h0,b,off,cap,rfl,hc,hb,hcell⟩
 ·(
 obtain⟨i,hi,hz,hs,hbt⟩:=zco
 have hr:=zhf (P:=prog) w 109 109 238 i underlying109 hi a cap
 clear hi hz hs hbt i
 go_enter func195,ntmps195
 have H:=af hr
 clear hr
 go_wp2_with (at_builtin;refine jb rfl _ _ 109 109 rfl _ _ _ _ rfl rfl (ae H) ?_)
 go_ret
 exact⟨_,rfl,Sl.nil _ _,But.refl _ _,fun b off n c e=>by simp at e⟩)
 ·(
 obtain⟨i,hi,hz,hs,hbt⟩:=zco
 have hr:=run_append_nil (P:=prog) w 109 109 238 i (.int .u32 0) underlying109 hi hz ⟨b,off,none⟩ xs.length cap (xs.map fun (x:Nat)=>Value.int .u32 (x:Int)) (by simp[hs]) (by
  intro j v hj
  simp only[List.getElem?_map,Option.map_eq_some_iff] at hj
  obtain⟨x,hx,rfl⟩:=hj
  have hlt:j<xs.length:=(List.getElem?_eq_some_iff.1 hx).1
  have:=hcell j hlt
  rw[hx] at this
  have e:(⟨b,off,none⟩:Addr).add j=⟨b,off+j,none⟩:=by by_cases h:j=0 <;> simp[Addr.add,h]
  rw[e];exact this) h0 (by omega) (by rw[hbt];omega)
 have hcg:=grownCap_ge w xs.length 0 238
 generalize grownCap w xs.length 0 238 = cg at hr hcg
 clear hi hz hs hbt i
 go_enter func195,ntmps195
 have H:=af hr
 clear hr
 go_wp2_with (at_builtin;refine jb rfl _ _ 109 109 rfl _ _ _ _ rfl rfl (ae H) ?_)
 go_ret
 refine⟨_,rfl,Sl.mk w.heap.size 0 cg hcg (fun j hj=>?_) (fun _ i v hv=>?_),(But.refl _ _).drew.alloc _,fun b off n c e=>?_⟩
 ·rw[World.cell?_drew,World.cell?_alloc_new,Nat.zero_add,Array.getElem?_append_left (by simp;exact hj)]
  simp[hj]
 ·(
 rw[World.cell?_drew,World.cell?_alloc_new] at hv
 have hm:=Array.mem_of_getElem? hv
 rw[Array.mem_append] at hm
 rcases hm with hm | hm
 ·simp only[List.mem_toArray,List.mem_map] at hm
  obtain⟨x,-,rfl⟩:=hm
  exact⟨_,rfl⟩
 ·unfold Builtin.zeroCells at hm
  exact⟨0,by simp at hm;grind⟩)
 ·have e1:=Option.some.inj (Value.slice.inj e).1
  have e2:=(Addr.mk.inj e1).1
  exact Nat.le_of_eq e2))
structure Slot (w:World) (b o:Nat):Prop where
 c0:∃ s,w.cell? ⟨b,o,none⟩=some (.bool s)
 c1:∃ a n c,w.cell? ⟨b,o+1,none⟩=some (.slice a n c)
 f0:w.frozen? ⟨b,o,none⟩=false
 f1:w.frozen? ⟨b,o+1,none⟩=false
theorem Slot.lt {w:World} {b o:Nat} (h:Slot w b o):b<w.heap.size:=by obtain⟨s,hs⟩:=h.c0;exact ai hs
theorem Slot.but {w w':World} {b o:Nat} {l:List Nat} (h:Slot w b o) (hb:But l w w') (hn:b ∉ l):Slot w' b o:=by(
 obtain⟨s,hs⟩:=h.c0
 obtain⟨a,n,c,hc⟩:=h.c1
 have hl:=h.lt
 exact⟨⟨s,hb.ag hs hn⟩,⟨a,n,c,hb.ag hc hn⟩,(hb.frozen (p:=⟨b,o,none⟩) hl hn).trans h.f0,(hb.frozen (p:=⟨b,o+1,none⟩) hl hn).trans h.f1⟩)
theorem za.lt {w:World} {b o:Nat} {z:Int} (h:za w b o z):b<w.heap.size:=ai h.1
theorem za.but {w w':World} {b o:Nat} {z:Int} (h:za w b o z) (hb:But [] w w'):za w' b o z:=by
 obtain⟨h0,v,h1,hs⟩:=h
 exact⟨hb.ag h0 (by simp),v,hb.ag h1 (by simp),hs.ah hb⟩
theorem Sl.setCell {k:IntKind} {w:World} {v:Value} {xs:List Nat} (h:Sl k w v xs) (p:Addr) (hp:p.spot=none) (u old:Value) (ho:w.cell? p=some old) (hne:∀ n,old≠.int k n):Sl k (w.setCell p u) v xs:=by(
 obtain⟨b,o,s⟩:=p
 simp only at hp
 subst hp
 exact h.over ((But.refl [b] w).setCell (by simp) u) ho hne)
def oo (w1:World) (b o:Nat) (v:Value) (s:Bool):World:=(w1.setCell ⟨b,o+1,none⟩ v).setCell ⟨b,o,none⟩ (.bool s)
theorem zet (w1:World) (b o:Nat) (v:Value) (s:Bool):(oo w1 b o v s).heap.size=w1.heap.size:=by simp[oo]
theorem zbn (w1:World) (b o:Nat) (v:Value) (s:Bool):But [b] w1 (oo w1 b o v s):=((But.refl _ _).setCell (by simp) _).setCell (by simp) _
theorem zdd (w1:World) (b o:Nat) (v:Value) (s:Bool) (p:Addr):(oo w1 b o v s).frozen? p=w1.frozen? p:=by simp[oo]
theorem zmx {w1:World} {b o:Nat} (h:Slot w1 b o) (v:Value) (s:Bool):(oo w1 b o v s).cell? ⟨b,o,none⟩=some (.bool s):=by
 obtain⟨s0,hs⟩:=h.c0
 exact World.cell?_setCell_same _ _ _ (u:=.bool s0) (by rw[World.cell?_setCell_other _ _ _ _ (by simp)];exact hs)
theorem zmw {w1:World} {b o:Nat} (h:Slot w1 b o) (v:Value) (s:Bool):(oo w1 b o v s).cell? ⟨b,o+1,none⟩=some v:=by(
 obtain⟨a,n,c,hc⟩:=h.c1
 unfold oo
 rw[World.cell?_setCell_other _ _ _ _ (by simp)]
 exact World.cell?_setCell_same _ _ _ hc)
theorem zes (w1:World) (b o:Nat) (v:Value) (s:Bool) (p:Addr) (hp:p≠⟨b,o,none⟩) (hp':p≠⟨b,o+1,none⟩):(oo w1 b o v s).cell? p=w1.cell? p:=by
 unfold oo
 rw[World.cell?_setCell_other _ _ _ _ (Ne.symm hp),World.cell?_setCell_other _ _ _ _ (Ne.symm hp')]
theorem qbj {w1:World} {b o:Nat} (h:Slot w1 b o) (v:Value) (s:Bool) {x:Value} {xs:List Nat} (hx:Sl .u32 w1 x xs):Sl .u32 (oo w1 b o v s) x xs:=by(
 obtain⟨s0,hs⟩:=h.c0
 obtain⟨a,n,c,hc⟩:=h.c1
 exact (hx.setCell ⟨b,o+1,none⟩ rfl v _ hc (by simp)).setCell ⟨b,o,none⟩ rfl _ (.bool s0) (by rw[World.cell?_setCell_other _ _ _ _ (by simp)];exact hs) (by simp))
theorem zbm {w1:World} {b o:Nat} (h:Slot w1 b o) (v:Value) (z:Int) (hv:Sl .u32 w1 v (wd 4294967296 z.natAbs)):za (oo w1 b o v (decide (z<0))) b o z :=
 ⟨zmx h v _,v,zmw h v _,qbj h v _ hv⟩
theorem zea {w1:World} {b o:Nat} (h:Slot w1 b o) (a:Option Addr) (n c:Nat) (s:Bool):Slot (oo w1 b o (.slice a n c) s) b o :=
 ⟨⟨s,zmx h _ _⟩,⟨a,n,c,zmw h _ _⟩,(zdd ..).trans h.f0,(zdd ..).trans h.f1⟩
theorem Sl.slice {k:IntKind} {w:World} {v:Value} {xs:List Nat} (h:Sl k w v xs):∃ a n c,v=.slice a n c:=by
 obtain⟨a,cap,rfl,_⟩:=h;exact⟨_,_,_,rfl⟩
theorem yu {w1:World} {b o:Nat} (h:Slot w1 b o) (v:Value) (s:Bool) {b' o':Nat} {z:Int} (hz:za w1 b' o' z) (hne:b'≠b∨(o'≠o∧o' + 1≠o∧o'≠o+1)):za (oo w1 b o v s) b' o' z:=by(
 obtain⟨h0,x,h1,hs⟩:=hz
 refine⟨?_,x,?_,qbj h v s hs⟩
 ·rw[zes _ _ _ _ _ _ (by simp only[ne_eq,Addr.mk.injEq];omega) (by simp only[ne_eq,Addr.mk.injEq];omega)];exact h0
 ·rw[zes _ _ _ _ _ _ (by simp only[ne_eq,Addr.mk.injEq];omega) (by simp only[ne_eq,Addr.mk.injEq];omega)];exact h1)
theorem kv {w1:World} {b o:Nat} (v:Value) (s:Bool) {b' o':Nat} (hz:Slot w1 b' o') (hne:b'≠b∨(o'≠o∧o' + 1≠o∧o'≠o+1)):Slot (oo w1 b o v s) b' o':=by(
 obtain⟨⟨s0,hs⟩,⟨a,n,c,hc⟩,f0,f1⟩:=hz
 refine⟨⟨s0,?_⟩,⟨a,n,c,?_⟩,(zdd ..).trans f0,(zdd ..).trans f1⟩
 ·rw[zes _ _ _ _ _ _ (by simp only[ne_eq,Addr.mk.injEq];omega) (by simp only[ne_eq,Addr.mk.injEq];omega)];exact hs
 ·rw[zes _ _ _ _ _ _ (by simp only[ne_eq,Addr.mk.injEq];omega) (by simp only[ne_eq,Addr.mk.injEq];omega)];exact hc)
theorem jg (w:World) (t:TypeId):Slot (w.alloc (.cells #[.bool false,.slice none 0 0] t)) w.heap.size 0 :=
 ⟨⟨false,by simp⟩,⟨none,0,0,by simp⟩,by simp,by simp⟩
theorem zoq (z:Int):(decide (z<0) && decide (0<(wd 4294967296 z.natAbs).length))=decide (z<0):=by(
 by_cases h:z<0
 ·(
 have:0<(wd 4294967296 z.natAbs).length:=by
  rw[Nat.pos_iff_ne_zero];intro e
  rw[ze (by omega)] at e
  omega
 simp[h,this])
 ·simp[h])
theorem zpu (n:Nat) (h:n<18446744073709551616):(wd 4294967296 n).length<2147483648:=by
 have:=aj (B:=4294967296) (by omega) n 2 (by omega)
 omega
theorem zfu (b o:Nat) (x:Int) (w:World) (h1:-9223372036854775808≤x) (h2:x<9223372036854775808) (hs:Slot w b o) :
   Calls prog 155 #[.pointer (some ⟨b,o,none⟩),.int .i64 x] w fun e w'=>e=.returned (.pointer (some ⟨b,o,none⟩))∧∃ w1 v,But [] w w1∧Sl .u32 w1 v (wd 4294967296 x.natAbs)∧w'=oo w1 b o v (decide (x<0)):=by(
 by_cases hx:x<0
 ·(
 go_enter func155,ntmps155
 go_wp2_with fail
 rw[show IntKind.u64.wrap (-IntKind.u64.wrap x)=((x.natAbs:Nat):Int) from by rw[IntKind.wrap_u64,IntKind.wrap_u64];omega]
 refine (zaq x.natAbs _ (by omega)).mono ?_
 rintro e w1 ⟨v,rfl,hv,hb,-⟩
 go_wp2_with fail
 have hs1:=hs.but hb (by simp)
 obtain⟨s0,hc0⟩:=hs1.c0
 obtain⟨a0,n0,c0,hc1⟩:=hs1.c1
 refine (zcp b o true v _ _ _ w1 hv (zpu _ (by omega)) hc0 hc1 hs1.f0 hs1.f1).mono ?_
 rintro e w2 ⟨rfl,rfl⟩
 go_wp2
 go_ret
 refine⟨rfl,w1,v,hb,hv,?_⟩
 have:=zoq x
 simp only[hx,decide_true,Bool.true_and] at this
 rw[this,decide_eq_true hx]
 rfl)
 ·(
 obtain⟨n,rfl⟩:=Int.eq_ofNat_of_zero_le (Int.not_lt.1 hx)
 go_enter func155,ntmps155
 go_wp2_with fail
 refine (zaq n _ (by omega)).mono ?_
 rintro e w1 ⟨v,rfl,hv,hb,-⟩
 go_wp2_with fail
 have hs1:=hs.but hb (by simp)
 obtain⟨s0,hc0⟩:=hs1.c0
 obtain⟨a0,n0,c0,hc1⟩:=hs1.c1
 refine (zcp b o false v _ _ _ w1 hv (zpu _ (by omega)) hc0 hc1 hs1.f0 hs1.f1).mono ?_
 rintro e w2 ⟨rfl,rfl⟩
 go_wp2
 go_ret
 exact⟨rfl,w1,v,hb,hv,by rw[show decide ((n:Int)<0)=false from decide_eq_false (by omega)];rfl⟩))
theorem si (x:Int) (w:World) (h1:-9223372036854775808≤x) (h2:x<9223372036854775808) :
   Calls prog 69 #[.int .i64 x] w fun e w'=>e=.returned (.pointer (some ⟨w.heap.size,0,none⟩))∧But [] w w'∧za w' w.heap.size 0 x∧Slot w' w.heap.size 0:=by(
 go_enter func69,ntmps69
 go_wp2_with fail
 have hs:=jg w 111
 refine (zfu w.heap.size 0 x _ h1 h2 hs).mono ?_
 rintro e w' ⟨rfl,w1,v,hb,hv,rfl⟩
 go_wp2
 go_ret
 have hs1:=hs.but hb (by simp)
 obtain⟨a,n,c,rfl⟩:=hv.slice
 exact⟨rfl,(((But.refl [] w).alloc _).trans' hb).trans (zbn _ _ _ _ _) (by simp),zbm hs1 _ x hv,zea hs1 _ _ _ _⟩)
theorem zvt (b o b' o':Nat) (z:Int) (w:World) (hs:Slot w b o) (hz:za w b' o' z) (hlen:(wd 4294967296 z.natAbs).length<2147483648) :
   Calls prog 151 #[.pointer (some ⟨b,o,none⟩),.pointer (some ⟨b',o',none⟩)] w fun e w'=>e=.returned (.pointer (some ⟨b,o,none⟩))∧∃ w1 v,But [] w w1∧Sl .u32 w1 v (wd 4294967296 z.natAbs)∧w'=oo w1 b o v (decide (z<0)):=by(
 obtain⟨h0,v0,h1,hv⟩:=hz
 go_enter func151,ntmps151
 go_wp2
 go_region_with (first
  | (go_at_call 195;refine (zdt v0 _ _ ?_ hlen).mono ?_;exact hv;rintro e w1 ⟨v,rfl,hv1,hb,-⟩;have hb0:But [] w w1:=(by first | exact hb | exact (But.refl _ _).drew.trans' hb | exact ((But.refl _ _).drewN _).trans' hb);have hc9:=hb0.ag h0 (by simp))
  | (go_at_call 153;(obtain⟨⟨s0,hc0⟩,⟨a0,n0,c0,hc1⟩,f0,f1⟩:=hs.but hb0 (by simp));refine (zcp b o _ v _ (.bool s0) (.slice a0 n0 c0) _ hv1 hlen hc0 hc1 f0 f1).mono ?_;rintro e w2 ⟨rfl,rfl⟩))
 all_goals go_wp2
 all_goals go_ret
 all_goals refine⟨rfl,w1,v,hb0,hv1,?_⟩
 all_goals (rw[zoq];rfl))
theorem qcl (z:Int):(!decide (z<0) && decide (0<(wd 4294967296 z.natAbs).length))=decide (-z<0):=by(
 have h:=ze (B:=4294967296) (by omega) z.natAbs
 rw[Bool.eq_iff_iff]
 simp only[Bool.and_eq_true,Bool.not_eq_true',decide_eq_false_iff_not,decide_eq_true_eq]
 omega)
theorem zwf (b o b' o':Nat) (z:Int) (w:World) (hs:Slot w b o) (hz:za w b' o' z) (hlen:(wd 4294967296 z.natAbs).length<2147483648) :
   Calls prog 196 #[.pointer (some ⟨b,o,none⟩),.pointer (some ⟨b',o',none⟩)] w fun e w'=>e=.returned (.pointer (some ⟨b,o,none⟩))∧∃ w1 v,But [] w w1∧Sl .u32 w1 v (wd 4294967296 (-z).natAbs)∧w'=oo w1 b o v (decide (-z<0)):=by(
 obtain⟨h0,v0,h1,hv⟩:=hz
 go_enter func196,ntmps196
 go_wp2
 go_region_with (first
  | (go_at_call 195;refine (zdt v0 _ _ ?_ hlen).mono ?_;exact hv;rintro e w1 ⟨v,rfl,hv1,hb,-⟩;have hb0:But [] w w1:=(by first | exact hb | exact (But.refl _ _).drew.trans' hb | exact ((But.refl _ _).drewN _).trans' hb);have hc9:=hb0.ag h0 (by simp))
  | (go_at_call 153;(obtain⟨⟨s0,hc0⟩,⟨a0,n0,c0,hc1⟩,f0,f1⟩:=hs.but hb0 (by simp));refine (zcp b o _ v _ (.bool s0) (.slice a0 n0 c0) _ hv1 hlen hc0 hc1 f0 f1).mono ?_;rintro e w2 ⟨rfl,rfl⟩))
 all_goals go_wp2
 all_goals go_ret
 all_goals refine⟨rfl,w1,v,hb0,by rw[Int.natAbs_neg];exact hv1,?_⟩
 all_goals (rw[qcl];rfl))
end Go.Proofs.YtagmkkiagjmimaaGreatDoor
