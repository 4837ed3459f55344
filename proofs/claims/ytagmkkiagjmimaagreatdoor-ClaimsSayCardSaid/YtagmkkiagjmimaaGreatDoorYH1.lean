/- Whole numbers of package tontinebig: wor -/
import Derived.Deep.QuietTactic
import Derived.BigQuiet
import Derived.Outline
import Derived.Deep.AppendSrc
import Derived.Deep.RegionWith
import Derived.WalkSpells
import Derived.Laws.MakeOwn
import Derived.Laws.Bits64b
import Derived.Deep.RegionHeld
import Derived.Test.YtagmkkiagjmimaaGreatDoorYN18
namespace Go.Proofs.YtagmkkiagjmimaaGreatDoor
set_option linter.unusedVariables false
open Go.Proofs.Tryz
open Go.RowKit
set_option maxHeartbeats 4000000
set_option maxRecDepth 100000
theorem o7 (v:Value) (xs:List Nat) (w:World) (hv:Sl .u32 w v xs) (hm:∀ x ∈ xs,x<4294967296) (hl:xs.length<2147483648) :
   Calls prog 202 #[v] w fun e w'=>∃ v',e=.returned v'∧Sl .u32 w v' (wd 4294967296 (vl 4294967296 xs))∧w'=w∧zch v v':=by(
 rcases hv.open with ⟨rfl,a,cap,rfl⟩|⟨h0,b,off,cap,rfl,hc,hb,hcell⟩
 ·(
 go_enter func202,ntmps202
 go_wp2
 refine wp_loop_rounds 1 ?_
 rw[rounds_succ]
 go_wp2
 go_ret
 exact⟨_,rfl,by simp only[vl,zo];exact⟨a,cap,rfl,Nat.zero_le _,fun i hi=>by simp at hi,fun _ _ _ h0=>by simp at h0⟩,rfl,zhd _ _ _ _ _⟩)
 ·(
 have HI:=af (hv.ints h0)
 go_enter func202,ntmps202
 go_wp2
 go_loop [3] (fun i=>∃ n:Nat,n≤xs.length∧i=.int .i64 n∧Hid (vl 4294967296 (xs.take n)=vl 4294967296 xs)) (fun i=>(intOf i).toNat)
 case atStart=>exact⟨xs.length,Nat.le_refl _,rfl,by show _=_;simp⟩
 case round =>(
 obtain⟨n,hn,rfl,hq⟩:=hrel
 by_cases hp:n=0
 ·(
 subst hp
 go_wp2
 go_ret
 refine⟨_,rfl,?_,rfl,zhd _ _ _ _ _⟩
 rw[zha (by omega) xs 0 hn hq.out hm (.inl rfl)]
 rw[List.take_zero]
 exact Sl.mk (xs:=[]) b off cap (Nat.zero_le _) (fun i hi=>by simp at hi) (fun _=>ae HI))
 ·(
 have hcn:=hcell (n-1) (by omega)
 by_cases hz:xs[n-1]?.getD 0=0
 ·(
 go_wp2
 refine⟨⟨n-1,by omega,by rw[Int.ofNat_sub (by omega)];rfl,?_⟩,by simp[intOf];omega⟩
 show _=_
 rw[← hq.out]
 obtain⟨k,rfl⟩:∃ k,n=k+1:=⟨n-1,by omega⟩
 rw[Nat.add_sub_cancel] at hz ⊢
 rw[uh xs k (by omega),hz,sw])
 ·(
 go_wp2
 go_ret
 refine⟨_,rfl,?_,rfl,zhd _ _ _ _ _⟩
 rw[zha (by omega) xs n hn hq.out hm (.inr hz)]
 have hl':(xs.take n).length=n:=by simp;omega
 have h:=Sl.mk (k:=.u32) (w:=w) (xs:=xs.take n) b off cap (by omega) (fun i hi=>by rw[zir xs n i (by omega)];exact hcell i (by omega)) (fun _=>ae HI)
 rw[hl'] at h
 exact h)))))
theorem zhb (v:Value) (xs:List Nat) (w:World) (hv:Sl .u32 w v xs) (hm:∀ x ∈ xs,x<4294967296) (hl:xs.length<2147483648) :
  Calls prog 202 #[v] w fun e w'=>∃ v',e=.returned v'∧Sl .u32 w v' (wd 4294967296 (vl 4294967296 xs))∧w'=w :=
 (o7 v xs w hv hm hl).mono fun _ _ ⟨v',h1,h2,h3,_⟩=>⟨v',h1,h2,h3⟩
theorem zbn (u:Nat) (w:World) (hu:u<18446744073709551616) :
   Calls prog 201 #[.int .u64 u] w fun e w'=>∃ v',e=.returned v'∧Sl .u32 w' v' (wd 4294967296 u)∧But [] w w'∧rz w.heap.size v':=by(
 go_enter func201,ntmps201
 go_wp2_with fail
 have h0:Sl .u32 (w.alloc (.cells #[.int .u32 ((u:Int)%4294967296),.int .u32 ((u:Int)/4294967296)] 238)) (.slice (some ⟨w.heap.size,0,none⟩) 2 2) [u%4294967296,u/4294967296] :=
  Sl.mk (xs:=[u%4294967296,u/4294967296]) w.heap.size 0 2 (by simp) (fun i hi=>by
   match i,hi with
   | 0,_=>simp
   | 1,_=>simp) (fun _ i v hv=>by
   rw[World.cell?_alloc_new] at hv
   match i,hv with
   | 0,hv=>exact⟨_,(by simpa using hv.symm)⟩
   | 1,hv=>exact⟨_,(by simpa using hv.symm)⟩
   | i+2,hv=>simp at hv)
 refine (o7 _ [u%4294967296,u/4294967296] _ h0 ?_ ?_).mono ?_
 ·intro x hx
  simp only[List.mem_cons,List.not_mem_nil,or_false] at hx
  omega
 ·simp
 rintro e w' ⟨v',rfl,hs,hw,hsb⟩
 obtain rfl:=hw.symm
 clear hw
 go_wp2
 go_ret
 refine⟨v',rfl,?_,(But.refl _ _).alloc _,dw hsb (Nat.le_refl _)⟩
 have e:vl 4294967296 [u%4294967296,u/4294967296]=u:=by simp only[vl];omega
 rw[e] at hs
 exact hs)
def zh (w:World) (b o:Nat) (z:Int):Prop:=w.cell? ⟨b,o,none⟩=some (.bool (decide (z<0)))∧∃ v,w.cell? ⟨b,o+1,none⟩=some v∧Sl .u32 w v (wd 4294967296 z.natAbs)
theorem zcc (b o:Nat) (neg:Bool) (v:Value) (xs:List Nat) (v0 v1:Value) (w:World) (hv:Sl .u32 w v xs) (_hl:xs.length<2147483648)
   (h0:w.cell? ⟨b,o,none⟩=some v0) (h1:w.cell? ⟨b,o+1,none⟩=some v1) (f0:w.frozen? ⟨b,o,none⟩=false) (f1:w.frozen? ⟨b,o+1,none⟩=false) :
   Calls prog 153 #[.pointer (some ⟨b,o,none⟩),.bool neg,v] w fun e w'=>e=.returned (.pointer (some ⟨b,o,none⟩))∧w'=(w.setCell ⟨b,o+1,none⟩ v).setCell ⟨b,o,none⟩ (.bool (neg && decide (0<xs.length))):=by(
 obtain⟨a,cap,rfl,-,-⟩:=hv
 cases neg <;> by_cases hp:0<xs.length
 all_goals(
 go_enter func153,ntmps153
 go_wp2
 go_ret
 exact⟨rfl,by simp[hp]⟩))
theorem zdm:∃ i,prog.info? 238 = some i∧i.zero=some (.int .u32 0)∧i.size=1∧i.bytes=4:=by(
 have h:(prog.info? 238).map (fun i=>(i.zero,i.size,i.bytes))=some (some (.int .u32 0),1,4):=by kernel_rfl
 obtain⟨i,hi,he⟩:=Option.map_eq_some_iff.1 h
 simp only[Prod.mk.injEq] at he
 exact⟨i,hi,he.1,he.2.1,he.2.2⟩)
theorem ziv {P:Program} (w:World) (t ty e:TypeId) (i:TypeInfo) (ht:P.underlying t=some (.slice e)) (hi:P.info? e=some i) (a:Option Addr) (c:Nat) :
   (Builtin.append_ #[t,t] ty #[.slice none 0 0,.slice a 0 c]).run P w=.ok (.slice none 0 0) w:=by(
 cases a with
 | none=>simp[Builtin.append_,run_underlying ht,sizeOf,typeInfo,hi,Builtin.lenOf,run_firstCells_none]
 | some a =>
  have hf:=run_firstCells_some (P:=P) w i.size 0 a 0 c [] (by simp) (by simp)
  simp[Builtin.append_,run_underlying ht,sizeOf,typeInfo,hi,Builtin.lenOf,hf])
theorem zes (v:Value) (xs:List Nat) (w:World) (hv:Sl .u32 w v xs) (hl:xs.length<2147483648) :
   Calls prog 195 #[v] w fun e w'=>∃ v',e=.returned v'∧Sl .u32 w' v' xs∧But [] w w'∧rz w.heap.size v':=by(
 rcases hv.open with ⟨rfl,a,cap,rfl⟩|⟨h0,b,off,cap,rfl,hc,hb,hcell⟩
 ·(
 obtain⟨i,hi,hz,hs,hbt⟩:=zdm
 have hr:=ziv (P:=prog) w 109 109 238 i underlying109 hi a cap
 clear hi hz hs hbt i
 go_enter func195,ntmps195
 have H:=af hr
 clear hr
 go_wp2_with (at_builtin;refine ja rfl _ _ 109 109 rfl _ _ _ _ rfl rfl (ae H) ?_)
 go_ret
 exact⟨_,rfl,Sl.nil _ _,But.refl _ _,fun b off n c e=>by simp at e⟩)
 ·(
 obtain⟨i,hi,hz,hs,hbt⟩:=zdm
 have hr:=run_append_nil (P:=prog) w 109 109 238 i (.int .u32 0) underlying109 hi hz ⟨b,off,none⟩ xs.length cap (xs.map fun (x:Nat)=>Value.int .u32 (x:Int)) (by simp[hs]) (by
  intro j v hj
  simp only[List.getElem?_map,Option.map_eq_some_iff] at hj
  obtain⟨x,hx,rfl⟩:=hj
  have hlt:j<xs.length:=(List.getElem?_eq_some_iff.1 hx).1
  have:=hcell j hlt
  rw[hx] at this
  have e:(⟨b,off,none⟩:Addr).add j=⟨b,off+j,none⟩:=by by_cases h:j=0 <;> simp[Addr.add,h]
  rw[e];exact this) h0 (by omega) (by rw[hbt];omega)
 have hcg:=grownCap_ge w xs.length 0 238
 generalize grownCap w xs.length 0 238 = cg at hr hcg
 clear hi hz hs hbt i
 go_enter func195,ntmps195
 have H:=af hr
 clear hr
 go_wp2_with (at_builtin;refine ja rfl _ _ 109 109 rfl _ _ _ _ rfl rfl (ae H) ?_)
 go_ret
 refine⟨_,rfl,Sl.mk w.heap.size 0 cg hcg (fun j hj=>?_) (fun _ i v hv=>?_),(But.refl _ _).drew.alloc _,fun b off n c e=>?_⟩
 ·rw[World.cell?_drew,World.cell?_alloc_new,Nat.zero_add,Array.getElem?_append_left (by simp;exact hj)]
  simp[hj]
 ·(
 rw[World.cell?_drew,World.cell?_alloc_new] at hv
 have hm:=Array.mem_of_getElem? hv
 rw[Array.mem_append] at hm
 rcases hm with hm | hm
 ·simp only[List.mem_toArray,List.mem_map] at hm
  obtain⟨x,-,rfl⟩:=hm
  exact⟨_,rfl⟩
 ·unfold Builtin.zeroCells at hm
  exact⟨0,by simp at hm;grind⟩)
 ·have e1:=Option.some.inj (Value.slice.inj e).1
  have e2:=(Addr.mk.inj e1).1
  exact Nat.le_of_eq e2))
structure Slot (w:World) (b o:Nat):Prop where
 c0:∃ s,w.cell? ⟨b,o,none⟩=some (.bool s)
 c1:∃ a n c,w.cell? ⟨b,o+1,none⟩=some (.slice a n c)
 f0:w.frozen? ⟨b,o,none⟩=false
 f1:w.frozen? ⟨b,o+1,none⟩=false
theorem Slot.lt {w:World} {b o:Nat} (h:Slot w b o):b<w.heap.size:=by obtain⟨s,hs⟩:=h.c0;exact ai hs
theorem Slot.but {w w':World} {b o:Nat} {l:List Nat} (h:Slot w b o) (hb:But l w w') (hn:b ∉ l):Slot w' b o:=by(
 obtain⟨s,hs⟩:=h.c0
 obtain⟨a,n,c,hc⟩:=h.c1
 have hl:=h.lt
 exact⟨⟨s,hb.ag hs hn⟩,⟨a,n,c,hb.ag hc hn⟩,(hb.frozen (p:=⟨b,o,none⟩) hl hn).trans h.f0,(hb.frozen (p:=⟨b,o+1,none⟩) hl hn).trans h.f1⟩)
theorem zh.lt {w:World} {b o:Nat} {z:Int} (h:zh w b o z):b<w.heap.size:=ai h.1
theorem zh.but {w w':World} {b o:Nat} {z:Int} (h:zh w b o z) (hb:But [] w w'):zh w' b o z:=by
 obtain⟨h0,v,h1,hs⟩:=h
 exact⟨hb.ag h0 (by simp),v,hb.ag h1 (by simp),hs.ah hb⟩
theorem Sl.setCell {k:IntKind} {w:World} {v:Value} {xs:List Nat} (h:Sl k w v xs) (p:Addr) (hp:p.spot=none) (u old:Value) (ho:w.cell? p=some old) (hne:∀ n,old≠.int k n):Sl k (w.setCell p u) v xs:=by(
 obtain⟨b,o,s⟩:=p
 simp only at hp
 subst hp
 exact h.over ((But.refl [b] w).setCell (by simp) u) ho hne)
def sj (w1:World) (b o:Nat) (v:Value) (s:Bool):World:=(w1.setCell ⟨b,o+1,none⟩ v).setCell ⟨b,o,none⟩ (.bool s)
theorem zga (w1:World) (b o:Nat) (v:Value) (s:Bool):(sj w1 b o v s).heap.size=w1.heap.size:=by simp[sj]
theorem zcq (w1:World) (b o:Nat) (v:Value) (s:Bool):But [b] w1 (sj w1 b o v s):=((But.refl _ _).setCell (by simp) _).setCell (by simp) _
theorem zdx (w1:World) (b o:Nat) (v:Value) (s:Bool) (p:Addr):(sj w1 b o v s).frozen? p=w1.frozen? p:=by simp[sj]
theorem zop {w1:World} {b o:Nat} (h:Slot w1 b o) (v:Value) (s:Bool):(sj w1 b o v s).cell? ⟨b,o,none⟩=some (.bool s):=by
 obtain⟨s0,hs⟩:=h.c0
 exact World.cell?_setCell_same _ _ _ (u:=.bool s0) (by rw[World.cell?_setCell_other _ _ _ _ (by simp)];exact hs)
theorem zoo {w1:World} {b o:Nat} (h:Slot w1 b o) (v:Value) (s:Bool):(sj w1 b o v s).cell? ⟨b,o+1,none⟩=some v:=by(
 obtain⟨a,n,c,hc⟩:=h.c1
 unfold sj
 rw[World.cell?_setCell_other _ _ _ _ (by simp)]
 exact World.cell?_setCell_same _ _ _ hc)
theorem zfz (w1:World) (b o:Nat) (v:Value) (s:Bool) (p:Addr) (hp:p≠⟨b,o,none⟩) (hp':p≠⟨b,o+1,none⟩):(sj w1 b o v s).cell? p=w1.cell? p:=by
 unfold sj
 rw[World.cell?_setCell_other _ _ _ _ (Ne.symm hp),World.cell?_setCell_other _ _ _ _ (Ne.symm hp')]
theorem qcy {w1:World} {b o:Nat} (h:Slot w1 b o) (v:Value) (s:Bool) {x:Value} {xs:List Nat} (hx:Sl .u32 w1 x xs):Sl .u32 (sj w1 b o v s) x xs:=by(
 obtain⟨s0,hs⟩:=h.c0
 obtain⟨a,n,c,hc⟩:=h.c1
 exact (hx.setCell ⟨b,o+1,none⟩ rfl v _ hc (by simp)).setCell ⟨b,o,none⟩ rfl _ (.bool s0) (by rw[World.cell?_setCell_other _ _ _ _ (by simp)];exact hs) (by simp))
theorem zcp {w1:World} {b o:Nat} (h:Slot w1 b o) (v:Value) (z:Int) (hv:Sl .u32 w1 v (wd 4294967296 z.natAbs)):zh (sj w1 b o v (decide (z<0))) b o z :=
 ⟨zop h v _,v,zoo h v _,qcy h v _ hv⟩
theorem zfa {w1:World} {b o:Nat} (h:Slot w1 b o) (a:Option Addr) (n c:Nat) (s:Bool):Slot (sj w1 b o (.slice a n c) s) b o :=
 ⟨⟨s,zop h _ _⟩,⟨a,n,c,zoo h _ _⟩,(zdx ..).trans h.f0,(zdx ..).trans h.f1⟩
theorem Sl.slice {k:IntKind} {w:World} {v:Value} {xs:List Nat} (h:Sl k w v xs):∃ a n c,v=.slice a n c:=by
 obtain⟨a,cap,rfl,_⟩:=h;exact⟨_,_,_,rfl⟩
theorem dz {w1:World} {b o:Nat} (h:Slot w1 b o) (v:Value) (s:Bool) {b' o':Nat} {z:Int} (hz:zh w1 b' o' z) (hne:b'≠b∨(o'≠o∧o' + 1≠o∧o'≠o+1)):zh (sj w1 b o v s) b' o' z:=by(
 obtain⟨h0,x,h1,hs⟩:=hz
 refine⟨?_,x,?_,qcy h v s hs⟩
 ·rw[zfz _ _ _ _ _ _ (by simp only[ne_eq,Addr.mk.injEq];omega) (by simp only[ne_eq,Addr.mk.injEq];omega)];exact h0
 ·rw[zfz _ _ _ _ _ _ (by simp only[ne_eq,Addr.mk.injEq];omega) (by simp only[ne_eq,Addr.mk.injEq];omega)];exact h1)
theorem yj {w1:World} {b o:Nat} (v:Value) (s:Bool) {b' o':Nat} (hz:Slot w1 b' o') (hne:b'≠b∨(o'≠o∧o' + 1≠o∧o'≠o+1)):Slot (sj w1 b o v s) b' o':=by(
 obtain⟨⟨s0,hs⟩,⟨a,n,c,hc⟩,f0,f1⟩:=hz
 refine⟨⟨s0,?_⟩,⟨a,n,c,?_⟩,(zdx ..).trans f0,(zdx ..).trans f1⟩
 ·rw[zfz _ _ _ _ _ _ (by simp only[ne_eq,Addr.mk.injEq];omega) (by simp only[ne_eq,Addr.mk.injEq];omega)];exact hs
 ·rw[zfz _ _ _ _ _ _ (by simp only[ne_eq,Addr.mk.injEq];omega) (by simp only[ne_eq,Addr.mk.injEq];omega)];exact hc)
theorem jq (w:World) (t:TypeId):Slot (w.alloc (.cells #[.bool false,.slice none 0 0] t)) w.heap.size 0 :=
 ⟨⟨false,by simp⟩,⟨none,0,0,by simp⟩,by simp,by simp⟩
theorem zqg (z:Int):(decide (z<0) && decide (0<(wd 4294967296 z.natAbs).length))=decide (z<0):=by(
 by_cases h:z<0
 ·(
 have:0<(wd 4294967296 z.natAbs).length:=by
  rw[Nat.pos_iff_ne_zero];intro e
  rw[zq (by omega)] at e
  omega
 simp[h,this])
 ·simp[h])
theorem zrn (n:Nat) (h:n<18446744073709551616):(wd 4294967296 n).length<2147483648:=by
 have:=aj (B:=4294967296) (by omega) n 2 (by omega)
 omega
theorem zhc (b o:Nat) (x:Int) (w:World) (h1:-9223372036854775808≤x) (h2:x<9223372036854775808) (hs:Slot w b o) :
   Calls prog 155 #[.pointer (some ⟨b,o,none⟩),.int .i64 x] w fun e w'=>e=.returned (.pointer (some ⟨b,o,none⟩))∧∃ w1 v,But [] w w1∧Sl .u32 w1 v (wd 4294967296 x.natAbs)∧w'=sj w1 b o v (decide (x<0)):=by(
 by_cases hx:x<0
 ·(
 go_enter func155,ntmps155
 go_wp2_with fail
 rw[show IntKind.u64.wrap (-IntKind.u64.wrap x)=((x.natAbs:Nat):Int) from by rw[IntKind.wrap_u64,IntKind.wrap_u64];omega]
 refine (zbn x.natAbs _ (by omega)).mono ?_
 rintro e w1 ⟨v,rfl,hv,hb,-⟩
 go_wp2_with fail
 have hs1:=hs.but hb (by simp)
 obtain⟨s0,hc0⟩:=hs1.c0
 obtain⟨a0,n0,c0,hc1⟩:=hs1.c1
 refine (zcc b o true v _ _ _ w1 hv (zrn _ (by omega)) hc0 hc1 hs1.f0 hs1.f1).mono ?_
 rintro e w2 ⟨rfl,rfl⟩
 go_wp2
 go_ret
 refine⟨rfl,w1,v,hb,hv,?_⟩
 have:=zqg x
 simp only[hx,decide_true,Bool.true_and] at this
 rw[this,decide_eq_true hx]
 rfl)
 ·(
 obtain⟨n,rfl⟩:=Int.eq_ofNat_of_zero_le (Int.not_lt.1 hx)
 go_enter func155,ntmps155
 go_wp2_with fail
 refine (zbn n _ (by omega)).mono ?_
 rintro e w1 ⟨v,rfl,hv,hb,-⟩
 go_wp2_with fail
 have hs1:=hs.but hb (by simp)
 obtain⟨s0,hc0⟩:=hs1.c0
 obtain⟨a0,n0,c0,hc1⟩:=hs1.c1
 refine (zcc b o false v _ _ _ w1 hv (zrn _ (by omega)) hc0 hc1 hs1.f0 hs1.f1).mono ?_
 rintro e w2 ⟨rfl,rfl⟩
 go_wp2
 go_ret
 exact⟨rfl,w1,v,hb,hv,by rw[show decide ((n:Int)<0)=false from decide_eq_false (by omega)];rfl⟩))
theorem zak (x:Int) (w:World) (h1:-9223372036854775808≤x) (h2:x<9223372036854775808) :
   Calls prog 69 #[.int .i64 x] w fun e w'=>e=.returned (.pointer (some ⟨w.heap.size,0,none⟩))∧But [] w w'∧zh w' w.heap.size 0 x∧Slot w' w.heap.size 0:=by(
 go_enter func69,ntmps69
 go_wp2_with fail
 have hs:=jq w 111
 refine (zhc w.heap.size 0 x _ h1 h2 hs).mono ?_
 rintro e w' ⟨rfl,w1,v,hb,hv,rfl⟩
 go_wp2
 go_ret
 have hs1:=hs.but hb (by simp)
 obtain⟨a,n,c,rfl⟩:=hv.slice
 exact⟨rfl,(((But.refl [] w).alloc _).trans' hb).trans (zcq _ _ _ _ _) (by simp),zcp hs1 _ x hv,zfa hs1 _ _ _ _⟩)
theorem zxl (b o b' o':Nat) (z:Int) (w:World) (hs:Slot w b o) (hz:zh w b' o' z) (hlen:(wd 4294967296 z.natAbs).length<2147483648) :
   Calls prog 151 #[.pointer (some ⟨b,o,none⟩),.pointer (some ⟨b',o',none⟩)] w fun e w'=>e=.returned (.pointer (some ⟨b,o,none⟩))∧∃ w1 v,But [] w w1∧Sl .u32 w1 v (wd 4294967296 z.natAbs)∧w'=sj w1 b o v (decide (z<0)):=by(
 obtain⟨h0,v0,h1,hv⟩:=hz
 go_enter func151,ntmps151
 go_wp2
 go_region_with (first
  | (go_at_call 195;refine (zes v0 _ _ ?_ hlen).mono ?_;exact hv;rintro e w1 ⟨v,rfl,hv1,hb,-⟩;have hb0:But [] w w1:=(by first | exact hb | exact (But.refl _ _).drew.trans' hb | exact ((But.refl _ _).drewN _).trans' hb);have hc9:=hb0.ag h0 (by simp))
  | (go_at_call 153;(obtain⟨⟨s0,hc0⟩,⟨a0,n0,c0,hc1⟩,f0,f1⟩:=hs.but hb0 (by simp));refine (zcc b o _ v _ (.bool s0) (.slice a0 n0 c0) _ hv1 hlen hc0 hc1 f0 f1).mono ?_;rintro e w2 ⟨rfl,rfl⟩))
 all_goals go_wp2
 all_goals go_ret
 all_goals refine⟨rfl,w1,v,hb0,hv1,?_⟩
 all_goals (rw[zqg];rfl))
theorem qey (z:Int):(!decide (z<0) && decide (0<(wd 4294967296 z.natAbs).length))=decide (-z<0):=by(
 have h:=zq (B:=4294967296) (by omega) z.natAbs
 rw[Bool.eq_iff_iff]
 simp only[Bool.and_eq_true,Bool.not_eq_true',decide_eq_false_iff_not,decide_eq_true_eq]
 omega)
theorem zxy (b o b' o':Nat) (z:Int) (w:World) (hs:Slot w b o) (hz:zh w b' o' z) (hlen:(wd 4294967296 z.natAbs).length<2147483648) :
   Calls prog 196 #[.pointer (some ⟨b,o,none⟩),.pointer (some ⟨b',o',none⟩)] w fun e w'=>e=.returned (.pointer (some ⟨b,o,none⟩))∧∃ w1 v,But [] w w1∧Sl .u32 w1 v (wd 4294967296 (-z).natAbs)∧w'=sj w1 b o v (decide (-z<0)):=by(
 obtain⟨h0,v0,h1,hv⟩:=hz
 go_enter func196,ntmps196
 go_wp2
 go_region_with (first
  | (go_at_call 195;refine (zes v0 _ _ ?_ hlen).mono ?_;exact hv;rintro e w1 ⟨v,rfl,hv1,hb,-⟩;have hb0:But [] w w1:=(by first | exact hb | exact (But.refl _ _).drew.trans' hb | exact ((But.refl _ _).drewN _).trans' hb);have hc9:=hb0.ag h0 (by simp))
  | (go_at_call 153;(obtain⟨⟨s0,hc0⟩,⟨a0,n0,c0,hc1⟩,f0,f1⟩:=hs.but hb0 (by simp));refine (zcc b o _ v _ (.bool s0) (.slice a0 n0 c0) _ hv1 hlen hc0 hc1 f0 f1).mono ?_;rintro e w2 ⟨rfl,rfl⟩))
 all_goals go_wp2
 all_goals go_ret
 all_goals refine⟨rfl,w1,v,hb0,by rw[Int.natAbs_neg];exact hv1,?_⟩
 all_goals (rw[qey];rfl))
theorem zdu (wx:World) (n:Nat) (h:n<2147483648):(Instr.makeSlice 109 (.int .i64 (n:Int)) (.int .i64 (n:Int))).run prog wx=.ok (.slice (some ⟨wx.heap.size,0,none⟩) n n) (wx.alloc (.cells (madeCells #[.int .u32 0] n) 238)):=by(
 obtain⟨ti,hi,hz,hs,hbt⟩:=zdm
 have hmk:=run_make (P:=prog) wx 109 238 ti (.int .u32 0) underlying109 hi hz .i64 .i64 (n:Int) (n:Int) (by omega) (by omega) (by rw[hbt];omega) (by omega)
 rw[hs,Int.toNat_natCast,Nat.mul_one] at hmk
 exact hmk)
theorem zev (wx:World) (n:Nat) (h:n<1073741824):(Instr.makeSlice 109 (.int .i64 ((n:Int)+1)) (.int .i64 ((n:Int)+1))).run prog wx=.ok (.slice (some ⟨wx.heap.size,0,none⟩) (n+1) (n+1)) (wx.alloc (.cells (madeCells #[.int .u32 0] (n+1)) 238)):=zdu wx (n+1) (by omega)
theorem zsd (wx:World) (n:Nat) (h:n<1073741824):(Instr.makeSlice 109 (.int .i64 ((n:Int)+2)) (.int .i64 ((n:Int)+2))).run prog wx=.ok (.slice (some ⟨wx.heap.size,0,none⟩) (n+2) (n+2)) (wx.alloc (.cells (madeCells #[.int .u32 0] (n+2)) 238)):=zdu wx (n+2) (by omega)
theorem zee (va vb:Value) (m n:Nat) (w:World) (ha:Sl .u32 w va (wd 4294967296 m)) (hb:Sl .u32 w vb (wd 4294967296 n)) (hla:(wd 4294967296 m).length<2147483648) (hlb:(wd 4294967296 n).length<2147483648) :
   Calls prog 163 #[va,vb] w fun e w'=>e=.returned (.int .i64 (zy m n))∧∃ q,w'=w.drewN q:=by(
 have mm:=zt (B:=4294967296) (by omega) m
 have mn:=zt (B:=4294967296) (by omega) n
 have em:=qy (B:=4294967296) (by omega) m
 have en:=qy (B:=4294967296) (by omega) n
 have lt1:=zqm (B:=4294967296) (by omega) m n
 have lt2:=zqm (B:=4294967296) (by omega) n m
 generalize wd 4294967296 m=xs at *
 generalize wd 4294967296 n=ys at *
 have A:=af em
 have B:=af en
 have C:=af mm
 have D:=af mn
 clear em en mm mn
 by_cases hne:xs.length=ys.length
 ·(
 rcases ha.open with ⟨rfl,a,cap,rfl⟩|⟨h0,b,off,cap,rfl,hc,hbl,hcell⟩
 ·(
 have:ys=[]:=List.length_eq_zero_iff.1 (by simpa using hne.symm)
 subst this
 obtain⟨b',cap',rfl,-,-⟩:=hb
 have e0:zy m n=0:=by
  have:=ae A;have:=ae B
  simp only[vl] at *
  simp[zy,← ae A,← ae B]
 have E:=af e0
 clear e0 lt1 lt2
 go_enter func163,ntmps163
 go_wp2
 refine wp_loop_rounds 1 ?_
 rw[rounds_succ]
 go_wp2
 go_ret
 exact⟨by rw[ae E];rfl,0,rfl⟩)
 ·(
 rcases hb.open with ⟨rfl,a,cap',rfl⟩|⟨h0',b',off',cap',rfl,hc',hbl',hcell'⟩
 ·simp at hne;simp[hne] at h0
 ·(
 clear ha hb lt1 lt2
 have hne':((xs.length:Int) != (ys.length:Int))=false:=by simp[hne]
 have N:=af hne
 clear hne
 go_enter func163,ntmps163
 go_wp2
 go_loopw [5] (fun i w'=>∃ k:Nat,k≤xs.length∧i=.int .i64 ((k:Int)-1)∧Hid (xs.drop k=ys.drop k)∧∃ q,w'=w.drewN q) (fun i _=>(intOf i+1).toNat)
 case atStart=>exact⟨xs.length,Nat.le_refl _,rfl,by show _=_;rw[List.drop_length,ae N,List.drop_length],0,rfl⟩
 case round =>(
 obtain⟨k,hk,rfl,hd,q,rfl⟩:=hrel
 by_cases hk0:k=0
 ·(
 subst hk0
 have e0:zy m n=0:=by
  have h1:=ae hd
  simp only[List.drop_zero] at h1
  have:m=n:=by rw[← ae A,← ae B,h1]
  simp[zy,this]
 have E:=af e0
 clear e0
 go_wp2
 go_ret
 exact⟨by rw[ae E];rfl,q,rfl⟩)
 ·(
 obtain⟨i,rfl⟩:∃ i,k=i+1:=⟨k-1,by omega⟩
 have hil:i<ys.length:=by rw[← ae N];omega
 have c1:=hcell i (by omega)
 have c2:=hcell' i hil
 rw[show (((i+1:Nat):Int)-1)=(i:Int) from by omega]
 clear hcell hcell'
 have P1:=af (fun h:xs[i]?.getD 0<ys[i]?.getD 0=>zpl (B:=4294967296) (by omega) xs ys i (by omega) hil (ae C) (ae hd) h)
 have P2:=af (fun h:ys[i]?.getD 0<xs[i]?.getD 0=>zpl (B:=4294967296) (by omega) ys xs i hil (by omega) (ae D) (ae hd).symm h)
 have P3:=af (fun h:xs[i]?.getD 0=ys[i]?.getD 0=>zpb xs ys i (by omega) hil (ae hd) h)
 generalize xs[i]?.getD 0=x at *
 generalize ys[i]?.getD 0=y at *
 by_cases hxy:x=y
 ·(
 have n1:((x:Int) != (y:Int))=false:=by simp[hxy]
 have G:=af hxy
 clear hxy
 go_wp2
 go_quiet (fail)
 go_wp2
 go_roundw
 case rel=>exact⟨i,by omega,rfl,ae P3 (ae G),_,rfl⟩
 case measure=>simp[intOf])
 ·(
 have n1:((x:Int) != (y:Int))=true:=by simp;omega
 by_cases hlt:x<y
 ·(
 have e0:zy m n=-1:=by
  have:=ae P1 hlt
  rw[ae A,ae B] at this
  simp[zy,this]
 have E:=af e0
 clear e0
 go_wp2
 go_quiet (fail)
 go_wp2
 go_quiet (fail)
 go_wp2
 go_ret
 exact⟨by rw[ae E];rfl,dr2 _ _ _ _⟩)
 ·(
 have e0:zy m n=1:=by
  have:=ae P2 (by omega)
  rw[ae A,ae B] at this
  simp only[zy]
  rw[if_neg (by omega),if_neg (by omega)]
 have E:=af e0
 clear e0
 go_wp2
 go_quiet (fail)
 go_wp2
 go_quiet (fail)
 go_wp2
 go_ret
 exact⟨by rw[ae E];rfl,dr2 _ _ _ _⟩)))))))
 ·(
 obtain⟨a,cap,rfl,-,-⟩:=ha
 obtain⟨b',cap',rfl,-,-⟩:=hb
 have n1:((xs.length:Int) != (ys.length:Int))=true:=by simp;omega
 by_cases hlt:xs.length<ys.length
 ·(
 have e0:zy m n=-1:=by simp[zy,lt1 hlt]
 have E:=af e0
 clear e0 lt1 lt2
 go_enter func163,ntmps163
 go_wp2
 go_ret
 exact⟨by rw[ae E];rfl,0,rfl⟩)
 ·(
 have e0:zy m n=1:=by
  have:=lt2 (by omega)
  simp only[zy]
  rw[if_neg (by omega),if_neg (by omega)]
 have E:=af e0
 clear e0 lt1 lt2
 go_enter func163,ntmps163
 go_wp2
 go_ret
 exact⟨by rw[ae E];rfl,0,rfl⟩)))
theorem zpg (va vb:Value) (xs ys:List Nat) (w:World) (ha:Sl .u32 w va xs) (hb:Sl .u32 w vb ys) (mx:∀ x ∈ xs,x<4294967296) (my:∀ x ∈ ys,x<4294967296) (hle:ys.length≤xs.length) (hl:xs.length<1073741824) (u v:Value) (huv:(u=va∧v=vb)∨(ys.length<xs.length∧u=vb∧v=va)) :
   Calls prog 199 #[u,v] w fun e w'=>∃ v',e=.returned v'∧Sl .u32 w' v' (wd 4294967296 (vl 4294967296 xs+vl 4294967296 ys))∧But [] w w'∧rz w.heap.size v':=by(
 have hmk:=fun wx=>zev wx xs.length hl
 have HCX:Hid (∀ W,But [] w W→∀ i,i<xs.length→∃ b off c,va=.slice (some ⟨b,off,none⟩) xs.length c∧W.cell? ⟨b,off+i,none⟩=some (.int .u32 (xs[i]?.getD 0:Nat))):=fun W hbw i hi=>by
  rcases (ha.ah hbw).open with ⟨e,-⟩|⟨-,b,off,c,e,-,-,h⟩
  ·rw[e] at hi;simp at hi
  ·exact⟨b,off,c,e,h i hi⟩
 have HCY:Hid (∀ W,But [] w W→∀ i,i<ys.length→∃ b off c,vb=.slice (some ⟨b,off,none⟩) ys.length c∧W.cell? ⟨b,off+i,none⟩=some (.int .u32 (ys[i]?.getD 0:Nat))):=fun W hbw i hi=>by
  rcases (hb.ah hbw).open with ⟨e,-⟩|⟨-,b,off,c,e,-,-,h⟩
  ·rw[e] at hi;simp at hi
  ·exact⟨b,off,c,e,h i hi⟩
 obtain⟨a1,c1,rfl,-,-⟩:=ha
 obtain⟨a2,c2,rfl,-,-⟩:=hb
 have MX:=af mx
 have MY:=af my
 have HLE:=af hle
 clear mx my
 rcases huv with ⟨rfl,rfl⟩|⟨hlt,rfl,rfl⟩
 all_goals(
 go_enter func199,ntmps199
 go_wp2
 go_loopw [6,7] (fun c i wr=>∃ (k cN:Nat) (rs:List Nat),k≤xs.length∧i=.int .i64 k∧c=.int .u64 cN∧cN≤1∧rs.length=xs.length+1∧Hid (zrk xs ys rs k cN∧But [] w wr∧xk .u32 wr w.heap.size rs)) (fun _ i _=>xs.length-(intOf i).toNat)
 case atStart=>exact⟨0,0,List.replicate (xs.length+1) 0,Nat.zero_le _,rfl,rfl,by omega,by simp,zrk.start xs ys,(But.refl _ _).alloc _,xk.made _ _ _ _⟩
 case round =>(
 obtain⟨k,cN,rs,hk,rfl,rfl,hcN,hrl,HI⟩:=hrel
 rename World=>wr
 by_cases hlt':k<xs.length
 ·(
 obtain⟨b1,o1,d1,e1,cx⟩:=ae HCX wr (ae HI).2.1 k hlt'
 simp only[Value.slice.injEq] at e1
 obtain⟨rfl,-,-⟩:=e1
 have hxB:xs[k]?.getD 0<4294967296:=bt (ae MX) (by omega) k
 have hyB:ys[k]?.getD 0<4294967296:=bt (ae MY) (by omega) k
 obtain⟨cr,fr⟩:=(ae HI).2.2.row k (by omega)
 have ST:=af ((ae HI).1.step hlt' hxB hyB _ rfl)
 have HSET:=af ((ae HI).2.2.set k (by omega) ((cN+xs[k]?.getD 0+ys[k]?.getD 0)%4294967296))
 have HB:=af (ae HI).2.1
 clear HI
 by_cases hly:k<ys.length
 ·(
 obtain⟨b2,o2,d2,e2,cy⟩:=ae HCY wr (ae HB) k hly
 simp only[Value.slice.injEq] at e2
 obtain⟨rfl,-,-⟩:=e2
 generalize xs[k]?.getD 0=x at *
 generalize ys[k]?.getD 0=y at *
 generalize rs[k]?.getD 0=r at cr
 obtain⟨s,hs⟩:∃ s,s=(cN+x+y)%4294967296:=⟨_,rfl⟩
 obtain⟨c',hc'⟩:∃ c',c'=(cN+x+y)/4294967296:=⟨_,rfl⟩
 rw[← hs] at ST HSET
 rw[← hc'] at ST
 have hc1:c'≤1:=by omega
 have f1:((cN:Int)+(x:Int)+(y:Int))%4294967296=(s:Int):=by omega
 have f2:((cN:Int)+(x:Int)+(y:Int))/4294967296=(c':Int):=by omega
 clear hs hc'
 go_wp2
 refine⟨⟨k+1,c',rs.set k s,by omega,by go_num,rfl,hc1,by rw[List.length_set];exact hrl,ae ST,(ae HB).setCell (.inr (Nat.le_refl _)) _,ae HSET⟩,?_⟩
 simp[intOf];omega)
 ·(
 have hy0:ys[k]?.getD 0=0:=by rw[List.getElem?_eq_none (by omega)];rfl
 rw[hy0] at ST HSET
 generalize xs[k]?.getD 0=x at *
 generalize rs[k]?.getD 0=r at cr
 obtain⟨s,hs⟩:∃ s,s=(cN+x+0)%4294967296:=⟨_,rfl⟩
 obtain⟨c',hc'⟩:∃ c',c'=(cN+x+0)/4294967296:=⟨_,rfl⟩
 rw[← hs] at ST HSET
 rw[← hc'] at ST
 have hc1:c'≤1:=by omega
 have f1:((cN:Int)+(x:Int))%4294967296=(s:Int):=by omega
 have f2:((cN:Int)+(x:Int))/4294967296=(c':Int):=by omega
 clear hs hc' hy0 hyB
 go_wp2
 refine⟨⟨k+1,c',rs.set k s,by omega,by go_num,rfl,hc1,by rw[List.length_set];exact hrl,ae ST,(ae HB).setCell (.inr (Nat.le_refl _)) _,ae HSET⟩,?_⟩
 simp[intOf];omega))
 ·(
 have hke:k=xs.length:=by omega
 subst hke
 obtain⟨cr,fr⟩:=(ae HI).2.2.row xs.length (by omega)
 have hset:=(ae HI).2.2.set xs.length (by omega) cN
 obtain⟨fv,fm⟩:=(ae HI).1.fin (ae HLE)
 have hsl:=hset.sl (xs.length+1) (by rw[List.length_set];omega)
 rw[List.length_set,hrl] at hsl
 have TR:=af (o7 _ (rs.set xs.length cN) _ hsl fm (by rw[List.length_set];omega))
 rw[fv] at TR
 have HB:=af ((ae HI).2.1.setCell (p:=⟨w.heap.size,xs.length,none⟩) (.inr (Nat.le_refl _)) (.int .u32 (cN:Int)))
 have f1:(cN:Int)%4294967296=(cN:Int):=by omega
 clear hset fv fm hsl HI
 generalize rs[xs.length]?.getD 0=r at cr
 go_wp2_with fail
 refine (ae TR).mono ?_
 rintro e w1 ⟨v1,rfl,hv1,hw,hsb⟩
 obtain rfl:=hw.symm
 clear hw
 have FIN:=af (And.intro hv1 (dw hsb (Nat.le_refl w.heap.size)))
 clear hv1 hsb
 go_wp2
 go_ret
 exact⟨v1,rfl,(ae FIN).1,ae HB,(ae FIN).2⟩))))
theorem qgl (va vb:Value) (m n:Nat) (w:World) (ha:Sl .u32 w va (wd 4294967296 m)) (hb:Sl .u32 w vb (wd 4294967296 n)) (hla:(wd 4294967296 m).length<1073741824) (hlb:(wd 4294967296 n).length<1073741824) :
   Calls prog 199 #[va,vb] w fun e w'=>∃ v',e=.returned v'∧Sl .u32 w' v' (wd 4294967296 (m+n))∧But [] w w'∧rz w.heap.size v':=by(
 have em:=qy (B:=4294967296) (by omega) m
 have en:=qy (B:=4294967296) (by omega) n
 rcases Nat.lt_or_ge (wd 4294967296 m).length (wd 4294967296 n).length with h | h
 ·have:=zpg vb va _ _ w hb ha (zt (by omega) n) (zt (by omega) m) (by omega) hlb va vb (.inr ⟨h,rfl,rfl⟩)
  rw[em,en,Nat.add_comm] at this
  exact this
 ·have:=zpg va vb _ _ w ha hb (zt (by omega) m) (zt (by omega) n) h hla va vb (.inl ⟨rfl,rfl⟩)
  rw[em,en] at this
  exact this)
theorem zyx (va vb:Value) (xs ys:List Nat) (w:World) (ha:Sl .u32 w va xs) (hb:Sl .u32 w vb ys) (mx:∀ x ∈ xs,x<4294967296) (my:∀ x ∈ ys,x<4294967296) (hle:ys.length≤xs.length) (hl:xs.length<1073741824) (hv:vl 4294967296 ys≤vl 4294967296 xs) :
   Calls prog 200 #[va,vb] w fun e w'=>∃ v',e=.returned v'∧Sl .u32 w' v' (wd 4294967296 (vl 4294967296 xs-vl 4294967296 ys))∧But [] w w'∧rz w.heap.size v':=by(
 have hmk:=fun wx=>zdu wx xs.length (by omega)
 have HCX:Hid (∀ W,But [] w W→∀ i,i<xs.length→∃ b off c,va=.slice (some ⟨b,off,none⟩) xs.length c∧W.cell? ⟨b,off+i,none⟩=some (.int .u32 (xs[i]?.getD 0:Nat))):=fun W hbw i hi=>by
  rcases (ha.ah hbw).open with ⟨e,-⟩|⟨-,b,off,c,e,-,-,h⟩
  ·rw[e] at hi;simp at hi
  ·exact⟨b,off,c,e,h i hi⟩
 have HCY:Hid (∀ W,But [] w W→∀ i,i<ys.length→∃ b off c,vb=.slice (some ⟨b,off,none⟩) ys.length c∧W.cell? ⟨b,off+i,none⟩=some (.int .u32 (ys[i]?.getD 0:Nat))):=fun W hbw i hi=>by
  rcases (hb.ah hbw).open with ⟨e,-⟩|⟨-,b,off,c,e,-,-,h⟩
  ·rw[e] at hi;simp at hi
  ·exact⟨b,off,c,e,h i hi⟩
 obtain⟨a1,c1,rfl,-,-⟩:=ha
 obtain⟨a2,c2,rfl,-,-⟩:=hb
 have MX:=af mx
 have MY:=af my
 have HLE:=af (And.intro hle hv)
 clear mx my hv
 go_enter func200,ntmps200
 go_wp2
 go_loopw [6,7] (fun c i wr=>∃ (k cN:Nat) (rs:List Nat),k≤xs.length∧i=.int .i64 k∧c=.int .u64 cN∧cN≤1∧rs.length=xs.length∧Hid (zrg xs ys rs k cN∧But [] w wr∧xk .u32 wr w.heap.size rs)) (fun _ i _=>xs.length-(intOf i).toNat)
 case atStart=>exact⟨0,0,List.replicate xs.length 0,Nat.zero_le _,rfl,rfl,by omega,by simp,zrg.start xs ys,(But.refl _ _).alloc _,xk.made _ _ _ _⟩
 case round =>(
 obtain⟨k,cN,rs,hk,rfl,rfl,hcN,hrl,HI⟩:=hrel
 rename World=>wr
 by_cases hlt':k<xs.length
 ·(
 obtain⟨b1,o1,d1,e1,cx⟩:=ae HCX wr (ae HI).2.1 k hlt'
 simp only[Value.slice.injEq] at e1
 obtain⟨rfl,-,-⟩:=e1
 have hxB:xs[k]?.getD 0<4294967296:=bt (ae MX) (by omega) k
 have hyB:ys[k]?.getD 0<4294967296:=bt (ae MY) (by omega) k
 obtain⟨cr,fr⟩:=(ae HI).2.2.row k (by omega)
 obtain⟨c',hc'⟩:∃ c',c'=if xs[k]?.getD 0<cN+ys[k]?.getD 0 then 1 else 0:=⟨_,rfl⟩
 obtain⟨s,hs⟩:∃ s,s=xs[k]?.getD 0+4294967296*c' - (cN+ys[k]?.getD 0):=⟨_,rfl⟩
 have hc1:c'≤1:=by rw[hc'];split <;> omega
 have hs1:s<4294967296∧s+cN+ys[k]?.getD 0=xs[k]?.getD 0+4294967296*c':=by
  rw[hs,hc'];split <;> omega
 have ST:=af ((ae HI).1.step hlt' s c' hs1.1 hc1 hs1.2)
 have HSET:=af ((ae HI).2.2.set k (by omega) s)
 have HB:=af (ae HI).2.1
 clear HI
 by_cases hly:k<ys.length
 ·(
 obtain⟨b2,o2,d2,e2,cy⟩:=ae HCY wr (ae HB) k hly
 simp only[Value.slice.injEq] at e2
 obtain⟨rfl,-,-⟩:=e2
 generalize xs[k]?.getD 0=x at *
 generalize ys[k]?.getD 0=y at *
 generalize rs[k]?.getD 0=r at cr
 obtain⟨h1,h2⟩:=hs1
 obtain⟨D,hD⟩:∃ D:Int,D=(x:Int)-(cN:Int)-(y:Int)+18446744073709551616*(c':Int):=⟨_,rfl⟩
 have g1:IntKind.u64.wrap (IntKind.u64.wrap ((x:Int)-(cN:Int))-(y:Int))=D:=by rw[IntKind.wrap_u64,IntKind.wrap_u64];rw[hc'] at hD;split at hD <;> omega
 have g2:D%4294967296=(s:Int):=by rw[hD];omega
 have g3:D/9223372036854775808=(c':Int):=by rw[hD];rw[hc'] at h2 ⊢;split <;> split at h2 <;> omega
 have d0:0≤D:=by rw[hD];omega
 clear hc' hs hD h2
 go_wp2
 refine⟨⟨k+1,c',rs.set k s,by omega,by go_num,rfl,hc1,by rw[List.length_set];exact hrl,ae ST,(ae HB).setCell (.inr (Nat.le_refl _)) _,ae HSET⟩,?_⟩
 simp[intOf];omega)
 ·(
 have hy0:ys[k]?.getD 0=0:=by rw[List.getElem?_eq_none (by omega)];rfl
 rw[hy0] at hc' hs1
 generalize xs[k]?.getD 0=x at *
 generalize rs[k]?.getD 0=r at cr
 obtain⟨h1,h2⟩:=hs1
 obtain⟨D,hD⟩:∃ D:Int,D=(x:Int)-(cN:Int)+18446744073709551616*(c':Int):=⟨_,rfl⟩
 have g1:IntKind.u64.wrap ((x:Int)-(cN:Int))=D:=by rw[IntKind.wrap_u64];rw[hc'] at hD;split at hD <;> omega
 have g2:D%4294967296=(s:Int):=by rw[hD];omega
 have g3:D/9223372036854775808=(c':Int):=by rw[hD];rw[hc'] at h2 ⊢;split <;> split at h2 <;> omega
 have d0:0≤D:=by rw[hD];omega
 clear hc' hs hD h2 hy0 hyB
 go_wp2
 refine⟨⟨k+1,c',rs.set k s,by omega,by go_num,rfl,hc1,by rw[List.length_set];exact hrl,ae ST,(ae HB).setCell (.inr (Nat.le_refl _)) _,ae HSET⟩,?_⟩
 simp[intOf];omega))
 ·(
 have hke:k=xs.length:=by omega
 subst hke
 have fv:=(ae HI).1.fin (ae HLE).1 (ae HLE).2
 have hsl:=(ae HI).2.2.sl xs.length (by omega)
 rw[hrl] at hsl
 have TR:=af (o7 _ rs _ hsl (ae HI).1.mem (by omega))
 rw[fv] at TR
 have HB:=af (ae HI).2.1
 clear fv hsl HI
 go_wp2_with fail
 refine (ae TR).mono ?_
 rintro e w1 ⟨v1,rfl,hv1,hw,hsb⟩
 obtain rfl:=hw.symm
 clear hw
 have FIN:=af (And.intro hv1 (dw hsb (Nat.le_refl w.heap.size)))
 clear hv1 hsb
 go_wp2
 go_ret
 exact⟨v1,rfl,(ae FIN).1,ae HB,(ae FIN).2⟩)))
theorem zrv (va vb:Value) (m n:Nat) (w:World) (ha:Sl .u32 w va (wd 4294967296 m)) (hb:Sl .u32 w vb (wd 4294967296 n)) (hla:(wd 4294967296 m).length<1073741824) (hmn:n≤m) :
   Calls prog 200 #[va,vb] w fun e w'=>∃ v',e=.returned v'∧Sl .u32 w' v' (wd 4294967296 (m-n))∧But [] w w'∧rz w.heap.size v':=by(
 have em:=qy (B:=4294967296) (by omega) m
 have en:=qy (B:=4294967296) (by omega) n
 have hl:(wd 4294967296 n).length≤(wd 4294967296 m).length:=aj (by omega) n _ (Nat.lt_of_le_of_lt hmn (ak (by omega) m _ (Nat.le_refl _)))
 have:=zyx va vb _ _ w ha hb (zt (by omega) m) (zt (by omega) n) hl hla (by rw[em,en];exact hmn)
 rw[em,en] at this
 exact this)
theorem qbq (m:Nat) (h:m<18446744073709551616):(m=0∧wd 4294967296 m=[])∨(0<m∧m<4294967296∧wd 4294967296 m=[m])∨(4294967296≤m∧wd 4294967296 m=[m%4294967296,m/4294967296]):=by(
 rcases Nat.eq_zero_or_pos m with rfl | h0
 ·exact .inl ⟨rfl,zo _⟩
 ·(
 rcases Nat.lt_or_ge m 4294967296 with h1 | h1
 ·refine .inr (.inl ⟨h0,h1,?_⟩)
  rw[zbr (by omega) h0,Nat.mod_eq_of_lt h1,Nat.div_eq_of_lt h1,zo]
 ·refine .inr (.inr ⟨h1,?_⟩)
  rw[zbr (by omega) h0,zbr (by omega) (by omega:0<m/4294967296),Nat.mod_eq_of_lt (by omega:m/4294967296<4294967296),Nat.div_eq_of_lt (by omega:m/4294967296<4294967296),zo]))
theorem qiw (a b:Nat) (ha:a<4294967296) (hb:b<4294967296):bits .or .u64 (a:Int) ((b:Int)*4294967296)=((a+b*4294967296:Nat):Int):=by(
 have e:(b:Int)*4294967296=((b*4294967296:Nat):Int):=by omega
 rw[e,bits_or_u64_nat a _ (by omega) (by omega),Nat.or_comm]
 have h:=Nat.two_pow_add_eq_or_of_lt (i:=32) (b:=a) (by omega) b
 rw[show (2:Nat)^32=4294967296 from rfl,Nat.mul_comm] at h
 rw[← h,Nat.add_comm])
theorem or_hi (a b:Nat) (ha:a<4294967296) (hb:b<4294967296):bits .or .u64 ((b:Int)*4294967296) (a:Int)=((a+b*4294967296:Nat):Int):=by(
 have e:(b:Int)*4294967296=((b*4294967296:Nat):Int):=by omega
 rw[e,bits_or_u64_nat _ a (by omega) (by omega)]
 have h:=Nat.two_pow_add_eq_or_of_lt (i:=32) (b:=a) (by omega) b
 rw[show (2:Nat)^32=4294967296 from rfl,Nat.mul_comm] at h
 rw[← h,Nat.add_comm])
theorem zbp (v:Value) (m:Nat) (w:World) (hv:Sl .u32 w v (wd 4294967296 m)) (hm:m<18446744073709551616) :
   Calls prog 229 #[v] w fun e w'=>e=.returned (.int .u64 m)∧w'=w:=by(
 rcases qbq m hm with ⟨rfl,e⟩|⟨h0,h1,e⟩|⟨h1,e⟩
 ·(
 rw[e] at hv
 obtain⟨a,cap,rfl,-,-⟩:=hv
 go_enter func229,ntmps229
 go_wp2
 go_ret
 exact⟨rfl,rfl⟩)
 ·(
 rw[e] at hv
 rcases hv.open with ⟨h,-⟩|⟨-,b,off,cap,rfl,hc,hb,hcell⟩
 ·simp at h
 ·(
 have c0:=hcell 0 (by simp)
 simp at c0
 clear hcell e hv
 go_enter func229,ntmps229
 go_wp2
 go_ret
 exact⟨rfl,rfl⟩))
 ·(
 rw[e] at hv
 rcases hv.open with ⟨h,-⟩|⟨-,b,off,cap,rfl,hc,hb,hcell⟩
 ·simp at h
 ·(
 have c0:=hcell 0 (by simp)
 have c1:=hcell 1 (by simp)
 simp at c0 c1
 clear hcell e hv
 go_enter func229,ntmps229
 go_wp2
 go_ret
 have e1:(m:Int)%4294967296=((m%4294967296:Nat):Int):=by omega
 have e2:(m:Int)/4294967296=((m/4294967296:Nat):Int):=by omega
 refine⟨?_,rfl⟩
 show Ending.returned (.int .u64 (bits .or .u64 ((m:Int)%4294967296) ((m:Int)/4294967296*4294967296)))=_
 rw[e1,e2,qiw _ _ (by omega) (by omega),show m%4294967296+m/4294967296*4294967296=m from by omega])))
theorem qfb (q:Nat) (h:q<4294967296):(q:Int)%4294967296=(q:Int):=by omega
structure zeg (xs qs:List Nat) (d k r:Nat):Prop where
 len:qs.length=xs.length
 mem:∀ x ∈ qs,x<4294967296
 quo:vl 4294967296 (qs.drop k)=vl 4294967296 (xs.drop k)/d
 rem:r=vl 4294967296 (xs.drop k)%d
theorem zeg.start (xs:List Nat) (d:Nat):zeg xs (List.replicate xs.length 0) d xs.length 0 :=
 ⟨by simp,by intro x hx;rw[List.mem_replicate] at hx;omega,by simp[vl],by simp[vl]⟩
theorem zeg.step {xs qs:List Nat} {d k r:Nat} (h:zeg xs qs d (k+1) r) (hd:0<d) (hd2:d<4294967296) (hk:k<xs.length) (hx:xs[k]?.getD 0<4294967296) (t:Nat) (ht:t=xs[k]?.getD 0+r*4294967296) :
   r<4294967296∧t<18446744073709551616∧t/d<4294967296∧t%d<4294967296∧zeg xs (qs.set k (t/d)) d k (t%d):=by(
 have hr:r<d:=by rw[h.rem];exact Nat.mod_lt _ hd
 have ht2:t/d<4294967296:=by
  rw[Nat.div_lt_iff_lt_mul hd]
  have:(r+1)*4294967296≤d*4294967296:=Nat.mul_le_mul_right _ hr
  rw[Nat.mul_comm 4294967296 d]
  omega
 have htm:=Nat.mod_lt t hd
 have hkq:k<qs.length:=by rw[h.len];exact hk
 have e:vl 4294967296 (xs.drop k)=t+4294967296*(vl 4294967296 (xs.drop (k+1))/d)*d:=by
  have h1:=xw 4294967296 xs k hk
  have h2:=Nat.mod_add_div (vl 4294967296 (xs.drop (k+1))) d
  rw[← h.rem] at h2
  have h3:4294967296*vl 4294967296 (xs.drop (k+1))=4294967296*r+4294967296*(vl 4294967296 (xs.drop (k+1))/d)*d:=by
   rw[Nat.mul_assoc,Nat.mul_comm (_/d) d,← Nat.mul_add,h2]
  omega
 refine⟨by omega,by omega,ht2,by omega,by rw[List.length_set];exact h.len,mem_set h.mem _ _ ht2,?_,?_⟩
 ·rw[e,Nat.add_mul_div_right _ _ hd,xw 4294967296 _ k (by rw[List.length_set];exact hkq),List.getElem?_set_self hkq,List.drop_set_of_lt (by omega),h.quo]
  rfl
 ·rw[e,Nat.add_mul_mod_self_right])
theorem zlz (v:Value) (m d:Nat) (w:World) (hv:Sl .u32 w v (wd 4294967296 m)) (hd:0<d) (hd2:d<4294967296) (hl:(wd 4294967296 m).length<1073741824) :
   Calls prog 228 #[v,.int .u32 d] w fun e w'=>∃ v',e=.returned (.tuple #[v',.int .u32 (m%d:Nat)])∧Sl .u32 w' v' (wd 4294967296 (m/d))∧But [] w w'∧rz w.heap.size v':=by(
 have mm:=zt (B:=4294967296) (by omega) m
 have em:=qy (B:=4294967296) (by omega) m
 generalize wd 4294967296 m=xs at *
 subst em
 have hdb:((d:Int)==0)=false:=by simp;omega
 obtain⟨ti,hi,hz,hs,hbt⟩:=zdm
 have hmk:=fun wx=>run_make (P:=prog) wx 109 238 ti (.int .u32 0) underlying109 hi hz .i64 .i64 (xs.length:Int) (xs.length:Int) (by omega) (by omega) (by rw[hbt];omega) (by omega)
 rw[hs] at hmk
 simp only[Int.toNat_natCast,Nat.mul_one] at hmk
 clear hi hz hs hbt ti
 have MM:=af mm
 clear mm
 rcases hv.open with ⟨rfl,a,cap,rfl⟩|⟨h0,b,off,cap,rfl,hc,hbl,hcell⟩
 ·(
 simp only[List.length_nil,Int.natCast_zero] at hmk
 clear MM hl
 go_enter func228,ntmps228
 go_wp2
 refine wp_loop_rounds 1 ?_
 rw[rounds_succ]
 go_wp2_with fail
 have hS:Sl .u32 (w.alloc (.cells (madeCells #[.int .u32 0] 0) 238)) (.slice (some ⟨w.heap.size,0,none⟩) 0 0) []:=Sl.mk (xs:=[]) w.heap.size 0 0 (Nat.le_refl _) (fun i hi=>by simp at hi) (fun h=>by simp at h)
 refine (o7 _ [] _ hS (by simp) (by simp)).mono ?_
 rintro e w' ⟨v',rfl,hs,rfl,hfr⟩
 have HF:rz w.heap.size v':=dw hfr (Nat.le_refl _)
 clear hfr
 go_wp2
 go_ret2
 simp only[vl,Nat.zero_div,Nat.zero_mod] at hs ⊢
 exact⟨v',rfl,hs,(But.refl _ _).alloc _,HF⟩)
 ·(
 have HC:=af hcell
 clear hcell hv
 go_enter func228,ntmps228
 go_wp2
 go_loopw [7,8] (fun r i wr=>∃ (k rN:Nat) (qs:List Nat),k≤xs.length∧i=.int .i64 ((k:Int)-1)∧r=.int .u64 rN∧rN<d∧Hid (zeg xs qs d k rN∧But [] w wr∧xk .u32 wr w.heap.size qs)) (fun _ i _=>(intOf i+1).toNat)
 case atStart=>exact⟨xs.length,0,List.replicate xs.length 0,Nat.le_refl _,rfl,rfl,hd,zeg.start xs d,(But.refl _ _).alloc _,xk.made _ _ _ _⟩
 case round =>(
 obtain⟨k,rN,qs,hk,rfl,rfl,hrN,HI⟩:=hrel
 rename World=>wr
 by_cases hk0:k=0
 ·(
 subst hk0
 go_wp2_with fail
 have hI:=ae HI
 have hS:=hI.2.2.sl xs.length (by rw[hI.1.len];exact Nat.le_refl _)
 rw[hI.1.len] at hS
 refine (o7 _ qs _ hS hI.1.mem (by rw[hI.1.len];omega)).mono ?_
 rintro e w' ⟨v',rfl,hs,rfl,hfr⟩
 have HF:rz w.heap.size v':=dw hfr (Nat.le_refl _)
 clear hfr
 go_wp2
 go_ret2
 have hq:=hI.1.quo
 have hr:=hI.1.rem
 simp only[List.drop_zero] at hq hr
 rw[hq] at hs
 exact⟨v',by rw[← hr];rfl,hs,hI.2.1,HF⟩)
 ·(
 obtain⟨i,rfl⟩:∃ i,k=i+1:=⟨k-1,by omega⟩
 rw[show (((i+1:Nat):Int)-1)=(i:Int) from by omega]
 have hil:i<qs.length:=by rw[(ae HI).1.len];omega
 have cx:=(ae HI).2.1.ag (ae HC i (by omega)) (by simp)
 have hxB:xs[i]?.getD 0<4294967296:=bt (ae MM) (by omega) i
 obtain⟨cr,fr⟩:=(ae HI).2.2.row i hil
 have ST:=af ((ae HI).1.step hd hd2 (by omega) hxB _ rfl)
 have OR:=or_hi (xs[i]?.getD 0) rN hxB (by omega)
 generalize xs[i]?.getD 0=x at *
 generalize qs[i]?.getD 0=r0 at *
 go_wp2
 have hS:=ae ST
 have hR:=(ae HI).2.2
 have e1:((x:Int)+(rN:Int)*4294967296)=((x+rN*4294967296:Nat):Int):=by omega
 rw[e1]
 generalize x+rN*4294967296=t at *
 have e2:(t:Int)/(d:Int)%4294967296=((t/d:Nat):Int):=by rw[← Int.natCast_ediv];exact qfb _ hS.2.2.1
 have e3:(t:Int)%(d:Int)=((t%d:Nat):Int):=by rw[Int.natCast_emod]
 rw[e2,e3]
 refine⟨⟨i,t%d,qs.set i (t/d),by omega,rfl,rfl,Nat.mod_lt _ hd,hS.2.2.2.2,(ae HI).2.1.setCell (by simp) _,hR.set _ hil _⟩,?_⟩
 simp[intOf]))))
theorem zyz (v:Value) (m d:Nat) (w:World) (hv:Sl .u32 w v (wd 4294967296 m)) (hd:0<d) (hd2:d<4294967296) (hl:(wd 4294967296 m).length<1073741824) :
  Calls prog 228 #[v,.int .u32 d] w fun e w'=>∃ v',e=.returned (.tuple #[v',.int .u32 (m%d:Nat)])∧Sl .u32 w' v' (wd 4294967296 (m/d))∧But [] w w' :=
 (zlz v m d w hv hd hd2 hl).mono fun _ _ ⟨v',h1,h2,h3,_⟩=>⟨v',h1,h2,h3⟩
structure zfp (xs ys rs:List Nat) (k:Nat):Prop where
 len:rs.length=xs.length+ys.length
 mem:∀ x ∈ rs,x<4294967296
 val:vl 4294967296 rs=vl 4294967296 (xs.take k)*vl 4294967296 ys
 zero:∀ j,k+ys.length≤j→rs[j]?.getD 0=0
structure zgn (xs ys rs:List Nat) (k q c:Nat):Prop where
 len:rs.length=xs.length+ys.length
 mem:∀ x ∈ rs,x<4294967296
 carry:c<4294967296
 val:vl 4294967296 rs+c*4294967296^(k+q)=vl 4294967296 (xs.take k)*vl 4294967296 ys+xs[k]?.getD 0*4294967296^k*vl 4294967296 (ys.take q)
 zero:∀ j,k+ys.length≤j→rs[j]?.getD 0=0
theorem zfp.start (xs ys:List Nat):zfp xs ys (List.replicate (xs.length+ys.length) 0) 0 :=
 ⟨by simp,by intro x hx;rw[List.mem_replicate] at hx;omega,by simp[jc,vl],by
  intro j _
  rcases Nat.lt_or_ge j (xs.length+ys.length) with h | h
  ·rw[List.getElem?_replicate,if_pos h];rfl
  ·rw[List.getElem?_replicate,if_neg (by omega)];rfl⟩
theorem zgn.start {xs ys rs:List Nat} {k:Nat} (h:zfp xs ys rs k):zgn xs ys rs k 0 0 :=
 ⟨h.len,h.mem,by omega,by simp[vl,h.val],h.zero⟩
theorem zgn.step {xs ys rs:List Nat} {k q c:Nat} (h:zgn xs ys rs k q c) (hx:xs[k]?.getD 0<4294967296) (hq:q<ys.length) (hk:k<xs.length) (hy:ys[q]?.getD 0<4294967296) (t:Nat) (ht:t=c+(xs[k]?.getD 0*ys[q]?.getD 0+rs[k+q]?.getD 0)) :
   t<18446744073709551616∧zgn xs ys (rs.set (k+q) (t%4294967296)) k (q+1) (t/4294967296):=by(
 have hr:rs[k+q]?.getD 0<4294967296:=bt h.mem (by omega) _
 have hkq:k+q<rs.length:=by have:=h.len;omega
 have h1:xs[k]?.getD 0*ys[q]?.getD 0≤4294967295*4294967295:=Nat.mul_le_mul (by omega) (by omega)
 have hc:=h.carry
 have htl:t<18446744073709551616:=by omega
 refine⟨htl,by rw[List.length_set];exact h.len,mem_set h.mem _ _ (by omega),by omega,?_,fun j hj=>?_⟩
 ·(
 have h2:=ig 4294967296 rs (k+q) (t%4294967296) hkq
 have h3:=h.val
 have h4:=qz 4294967296 ys q hq
 have e1:xs[k]?.getD 0*4294967296^k*(ys[q]?.getD 0*4294967296^q)=xs[k]?.getD 0*ys[q]?.getD 0*4294967296^(k+q):=by
  rw[Nat.pow_add];simp only[Nat.mul_assoc,Nat.mul_left_comm]
 have e0:xs[k]?.getD 0*4294967296^k*vl 4294967296 (ys.take (q+1))=xs[k]?.getD 0*4294967296^k*vl 4294967296 (ys.take q)+xs[k]?.getD 0*ys[q]?.getD 0*4294967296^(k+q):=by rw[h4,Nat.mul_add,e1]
 rw[e0,← Nat.add_assoc k q 1,Nat.pow_succ]
 clear e0 e1 h4
 generalize 4294967296^(k+q)=P at *
 have e2:t/4294967296*(P*4294967296)=(4294967296*(t/4294967296))*P:=by rw[Nat.mul_comm P,← Nat.mul_assoc,Nat.mul_comm (t/4294967296)]
 have e3:t%4294967296*P+4294967296*(t/4294967296)*P=t*P:=by rw[← Nat.add_mul,Nat.mod_add_div]
 have e4:t*P=c*P+(xs[k]?.getD 0*ys[q]?.getD 0*P+rs[k+q]?.getD 0*P):=by rw[ht,Nat.add_mul,Nat.add_mul]
 rw[e2]
 omega)
 ·rw[List.getElem?_set_ne (by omega)];exact h.zero j hj)
theorem zgn.fin {xs ys rs:List Nat} {k c:Nat} (h:zgn xs ys rs k ys.length c) (hk:k<xs.length):zfp xs ys (rs.set (k+ys.length) c) (k+1):=by(
 have hkq:k+ys.length<rs.length:=by have:=h.len;omega
 refine⟨by rw[List.length_set];exact h.len,mem_set h.mem _ _ h.carry,?_,fun j hj=>?_⟩
 ·have h2:=ig 4294967296 rs (k+ys.length) c hkq
  have h3:=h.val
  rw[h.zero _ (Nat.le_refl _),Nat.zero_mul,Nat.add_zero] at h2
  rw[h2,h3,List.take_length,qz 4294967296 xs k hk,Nat.add_mul]
 ·rw[List.getElem?_set_ne (by omega)];exact h.zero j (by omega))
theorem zfp.fin {xs ys rs:List Nat} (h:zfp xs ys rs xs.length):vl 4294967296 rs=vl 4294967296 xs*vl 4294967296 ys:=by rw[h.val,List.take_length]
theorem qhw (va vb:Value) (m n:Nat) (w:World) (ha:Sl .u32 w va (wd 4294967296 m)) (hb:Sl .u32 w vb (wd 4294967296 n)) (hla:(wd 4294967296 m).length<1073741824) (hlb:(wd 4294967296 n).length<1073741824) :
   Calls prog 164 #[va,vb] w fun e w'=>∃ v',e=.returned v'∧Sl .u32 w' v' (wd 4294967296 (m*n))∧But [] w w':=by(
 have mm:=zt (B:=4294967296) (by omega) m
 have mn:=zt (B:=4294967296) (by omega) n
 have em:=qy (B:=4294967296) (by omega) m
 have en:=qy (B:=4294967296) (by omega) n
 generalize wd 4294967296 m=xs at *
 generalize wd 4294967296 n=ys at *
 subst em en
 rcases ha.open with ⟨rfl,a,cap,rfl⟩|⟨h0,b,off,cap,rfl,hc,hbl,hcell⟩
 ·(
 obtain⟨b',cap',rfl,-,-⟩:=hb
 go_enter func164,ntmps164
 go_wp2
 go_ret
 exact⟨_,rfl,by simp only[vl,Nat.zero_mul,zo];exact Sl.nil _ _,But.refl _ _⟩)
 ·(
 have n0:((xs.length:Int)==0)=false:=by simp;intro h;simp[h] at h0
 rcases hb.open with ⟨rfl,a,cap',rfl⟩|⟨h0',b',off',cap',rfl,hc',hbl',hcell'⟩
 ·go_enter func164,ntmps164
  go_wp2
  go_ret
  exact⟨_,rfl,by simp only[vl,Nat.mul_zero,zo];exact Sl.nil _ _,But.refl _ _⟩
 ·(
 have n0':((ys.length:Int)==0)=false:=by simp;intro h;simp[h] at h0'
 obtain⟨ti,hi,hz,hs,hbt⟩:=zdm
 have hmk:=fun wx=>run_make (P:=prog) wx 109 238 ti (.int .u32 0) underlying109 hi hz .i64 .i64 ((xs.length:Int)+(ys.length:Int)) ((xs.length:Int)+(ys.length:Int)) (by omega) (by omega) (by rw[hbt];omega) (by omega)
 rw[hs] at hmk
 have et:((xs.length:Int)+(ys.length:Int)).toNat=xs.length+ys.length:=by omega
 rw[et,Nat.mul_one] at hmk
 clear hi hz hs hbt ti ha hb
 have HC:=af hcell
 have MM:=af mm
 have MN:=af mn
 clear mm mn
 have HC':=af hcell'
 clear hcell hcell' et
 go_enter func164,ntmps164
 go_wp2
 go_loopw [6] (fun i wr=>∃ (k:Nat) (rs:List Nat),k≤xs.length∧i=.int .i64 k∧Hid (zfp xs ys rs k∧But [] w wr∧xk .u32 wr w.heap.size rs∧w.heap.size<wr.heap.size)) (fun i _=>xs.length-(intOf i).toNat)
 case atStart=>exact⟨0,List.replicate (xs.length+ys.length) 0,Nat.zero_le _,rfl,zfp.start xs ys,(But.refl _ _).alloc _,xk.made _ _ _ _,by simp⟩
 case round =>(
 obtain⟨k,rs,hk,rfl,HI⟩:=hrel
 rename World=>wr
 by_cases hlt:k<xs.length
 ·(
 have cx:=(ae HI).2.1.ag (ae HC k hlt) (by simp)
 have hxB:xs[k]?.getD 0<4294967296:=bt (ae MM) (by omega) k
 have II:Hid (zgn xs ys rs k 0 0∧But [] w wr∧xk .u32 wr w.heap.size rs∧w.heap.size<wr.heap.size):=⟨zgn.start (ae HI).1,(ae HI).2⟩
 go_wp2
 go_loopw [7,8] (fun c j wq=>∃ (q cN:Nat) (rq:List Nat),q≤ys.length∧j=.int .i64 q∧c=.int .u64 cN∧cN<4294967296∧Hid (zgn xs ys rq k q cN∧But [] w wq∧xk .u32 wq w.heap.size rq∧w.heap.size<wq.heap.size)) (fun _ j _=>ys.length-(intOf j).toNat)
 case atStart=>exact⟨0,0,rs,Nat.zero_le _,rfl,rfl,by omega,II⟩
 case round =>(
 clear cx II HI
 obtain⟨q,cN,rq,hq,rfl,rfl,hcN,HJ⟩:=hrel
 rename World=>wq
 by_cases hlt':q<ys.length
 ·(
 have hrl:k+q<rq.length:=by have:=(ae HJ).1.len;omega
 have cx:=(ae HJ).2.1.ag (ae HC k hlt) (by simp)
 have cy:=(ae HJ).2.1.ag (ae HC' q hlt') (by simp)
 have hyB:ys[q]?.getD 0<4294967296:=bt (ae MN) (by omega) q
 have hrB:rq[k+q]?.getD 0<4294967296:=bt (ae HJ).1.mem (by omega) _
 have cr:=((ae HJ).2.2.1.row (k+q) hrl).1
 have fr:=((ae HJ).2.2.1.row (k+q) hrl).2
 have ST:=af ((ae HJ).1.step hxB hlt' hlt hyB _ rfl)
 have h1:xs[k]?.getD 0*ys[q]?.getD 0≤4294967295*4294967295:=Nat.mul_le_mul (by omega) (by omega)
 generalize xs[k]?.getD 0=x at *
 generalize ys[q]?.getD 0=y at *
 generalize rq[k+q]?.getD 0=r at *
 go_wp2
 go_quiet (fail)
 go_wp2
 have hS:=ae ST
 have hR:=(ae HJ).2.2.1
 have e1:((cN:Int)+((x:Int)*(y:Int)+(r:Int)))=((cN+(x*y+r):Nat):Int):=by simp
 rw[e1]
 generalize cN+(x*y+r)=t at *
 have e2:(t:Int)%4294967296=((t%4294967296:Nat):Int):=by omega
 have e3:(t:Int)/4294967296=((t/4294967296:Nat):Int):=by omega
 rw[e2,e3]
 refine⟨⟨q+1,t/4294967296,rq.set (k+q) (t%4294967296),by omega,by go_num,rfl,hS.2.carry,hS.2,((ae HJ).2.1.drewN nq).setCell (by simp) _,xk.set (hR.drewN nq) _ hrl _,by rw[World.size_setCell];exact (ae HJ).2.2.2⟩,?_⟩
 simp[intOf];omega)
 ·(
 have hqe:q=ys.length:=by omega
 subst hqe
 have hrl:k+ys.length<rq.length:=by have:=(ae HJ).1.len;omega
 obtain⟨cr,fr⟩:=(ae HJ).2.2.1.row (k+ys.length) hrl
 go_wp2
 refine⟨⟨k+1,rq.set (k+ys.length) cN,by omega,by go_num,(ae HJ).1.fin hlt,(ae HJ).2.1.setCell (by simp) _,(ae HJ).2.2.1.set _ hrl _,by rw[World.size_setCell];exact (ae HJ).2.2.2⟩,?_⟩
 simp[intOf];omega)))
 ·(
 go_wp2_with fail
 have hke:k=xs.length:=by omega
 subst hke
 have hO:=(ae HI).1
 have hS:=(ae HI).2.2.1.sl (xs.length+ys.length) (by rw[hO.len];exact Nat.le_refl _)
 rw[hO.len] at hS
 refine (zhb _ rs _ hS hO.mem (by rw[hO.len];omega)).mono ?_
 rintro e w' ⟨v',rfl,hs,rfl⟩
 go_wp2
 go_ret
 rw[hO.fin] at hs
 exact⟨v',rfl,hs,(ae HI).2.1⟩)))))
theorem zzb (x y:Int):((decide (x<0) != decide (y<0)) && decide (0<(wd 4294967296 (x.natAbs*y.natAbs)).length))=decide (x*y<0):=by(
 have h:=zq (B:=4294967296) (by omega) (x.natAbs*y.natAbs)
 rw[← Int.natAbs_mul] at h ⊢
 rw[← zqg (x*y)]
 by_cases h0:0<(wd 4294967296 (x*y).natAbs).length
 ·(
 have hne:x*y≠0:=by intro e;rw[e] at h0;simp[zo] at h0
 have hx:x≠0:=by rintro rfl;simp at hne
 have hy:y≠0:=by rintro rfl;simp at hne
 simp only[h0,decide_true,Bool.and_true]
 rcases Int.lt_or_gt_of_ne hx with hx | hx <;> rcases Int.lt_or_gt_of_ne hy with hy | hy
 ·have:=Int.mul_pos_of_neg_of_neg hx hy
  simp[hx,hy];omega
 ·have:=Int.mul_neg_of_neg_of_pos hx hy
  have:¬ y<0:=by omega
  simp[*]
 ·have:=Int.mul_neg_of_pos_of_neg hx hy
  have:¬ x<0:=by omega
  simp[*]
 ·(
 have:=Int.mul_pos hx hy
 have:¬ x<0:=by omega
 have:¬ y<0:=by omega
 have:¬ x*y<0:=by omega
 simp[*]))
 ·simp only[h0,decide_false,Bool.and_false])
theorem zms (b o b1 o1 b2 o2:Nat) (x y:Int) (w:World) (hs:Slot w b o) (hne1:b≠b1) (hne2:b≠b2) (hx:zh w b1 o1 x) (hy:zh w b2 o2 y) (hlx:(wd 4294967296 x.natAbs).length<1073741824) (hly:(wd 4294967296 y.natAbs).length<1073741824) (hlen:(wd 4294967296 (x.natAbs*y.natAbs)).length<2147483648) :
   Calls prog 85 #[.pointer (some ⟨b,o,none⟩),.pointer (some ⟨b1,o1,none⟩),.pointer (some ⟨b2,o2,none⟩)] w fun e w'=>e=.returned (.pointer (some ⟨b,o,none⟩))∧∃ w1 v,But [] w w1∧Sl .u32 w1 v (wd 4294967296 (x*y).natAbs)∧w'=sj w1 b o v (decide (x*y<0)):=by(
 obtain⟨h0,v0,h1,hv⟩:=hx
 obtain⟨g0,u0,g1,hu⟩:=hy
 have HS:=af (zzb x y)
 generalize hsx:decide (x<0)=sx at h0 HS
 generalize hsy:decide (y<0)=sy at g0 HS
 clear hsx hsy
 go_enter func85,ntmps85
 go_wp2
 go_region_held (fun w'=>w'.cell? ⟨b1,o1,none⟩=some (.bool sx)∧w'.cell? ⟨b1,o1+1,none⟩=some v0∧w'.cell? ⟨b2,o2,none⟩=some (.bool sy)∧w'.cell? ⟨b2,o2+1,none⟩=some u0) (go_keep) (first
  | (go_at_call 164;refine (qhw v0 u0 _ _ _ ?_ ?_ hlx hly).mono ?_;exact hv;exact hu;rintro e w1 ⟨v,rfl,hv1,hb⟩;have hb0:But [] w w1:=(by first | exact hb | exact (But.refl _ _).drew.trans' hb | exact ((But.refl _ _).drewN _).trans' hb);have k0:=hb0.ag h0 (by simp);have k1:=hb0.ag h1 (by simp);have k2:=hb0.ag g0 (by simp);have k3:=hb0.ag g1 (by simp))
  | (go_at_call 153;(obtain⟨⟨s0,hc0⟩,⟨a0,n0,c0,hc1⟩,f0,f1⟩:=hs.but hb0 (by simp));refine (zcc b o _ v _ (.bool s0) (.slice a0 n0 c0) _ hv1 hlen hc0 hc1 f0 f1).mono ?_;rintro e w2 ⟨rfl,rfl⟩))
 all_goals go_wp2
 all_goals go_ret
 all_goals refine⟨rfl,w1,v,hb0,by rw[Int.natAbs_mul];exact hv1,?_⟩
 all_goals (rw[← ae HS];rfl))
end Go.Proofs.YtagmkkiagjmimaaGreatDoor
