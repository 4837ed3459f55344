/- Whether one law is nowhere more likely beyond an amount, as the Go text of package order tells. -/
import Derived.Test.YtikgmhpbdcdogaaGreatDoorYL1
import Derived.Test.YtikgmhpbdcdogaaGreatDoorYOB
namespace Go.Proofs.YtikgmhpbdcdogaaGreatDoor
open Go.RowKit

/-- by how much more the first law has of an amount -/
def moreR (fs gs : List Rat) (k : Nat) : Rat:=fs[k]?.getD 0 - gs[k]?.getD 0
theorem len_at {fs : List Rat} {c : Nat} (h : ∀ f ∈ fs,Len f c) (hc : 1 ≤ c) (k : Nat) : Len (fs[k]?.getD 0) c:=by
 by_cases hk : k < fs.length
 ·rw [List.getElem?_eq_getElem hk]; exact h _ (List.getElem_mem hk)
 ·rw [List.getElem?_eq_none (by omega)]; exact len_zero _ hc
theorem len_up (fs gs : List Rat) (h1 : ∀ f ∈ fs,Len f 1) (h2 : ∀ f ∈ gs,Len f 1) (n : Nat) : ∀ j,Len (upS (moreR fs gs) n j) (j * 4 + 1)
 | 0 => len_zero _ (by omega)
 | j + 1 => by
  have ih:=len_up fs gs h1 h2 n j
  have l:=len_sub (len_at h1 (Nat.le_refl _) (n - (j + 1))) (len_at h2 (Nat.le_refl _) (n - (j + 1))) 3 (by omega)
  show Len (upS (moreR fs gs) n j + moreR fs gs (n - (j + 1))) _
  exact len_add ih l _ (by omega)
set_option maxHeartbeats 16000000 in
set_option maxRecDepth 100000 in
theorem nowhere_any (va vb : Value) (fs gs : List Rat) (n : Nat) (w : World) (ha : FracsAt w va fs) (hb : FracsAt w vb gs) (hn : fs.length ≤ 1000) (hm : gs.length ≤ 1000) (lf : ∀ f ∈ fs,Len f 1) (lg : ∀ f ∈ gs,Len f 1) (hN : n = max fs.length gs.length) :
  Calls Tryz.prog 65 #[va,vb,.func (.func 66) #[] #[]] w fun e w' => ∃ (bl : Bool) (f : Int),e = .returned (.tuple #[.bool bl,.int .i64 f])∧(bl = true ↔ ∀ j,j < n→¬ 0 < upS (moreR fs gs) n j)∧But [] w w':=by
 have AA:=hide (fun W (h : But [] w W) k (hk : k < 1000000) => orderAt_any va fs k W (ha.but h) hn hk)
 have AB:=hide (fun W (h : But [] w W) k (hk : k < 1000000) => orderAt_any vb gs k W (hb.but h) hm hk)
 obtain ⟨q,cap,rfl,-,-⟩:=id ha
 obtain ⟨q',cap',rfl,-,-⟩:=id hb
 obtain ⟨la,hla⟩ : ∃ la,la = fs.length:=⟨_,rfl⟩
 obtain ⟨lb,hlb⟩ : ∃ lb,lb = gs.length:=⟨_,rfl⟩
 rw [← hla] at hn AA hN ⊢
 rw [← hlb] at hm AB hN ⊢
 have hmax : max (la : Int) (lb : Int) = (n : Int):=by omega
 have hn1 : n ≤ 1000:=by omega
 have LM:=hide (fun k => len_sub (len_at lf (Nat.le_refl _) k) (len_at lg (Nat.le_refl _) k) 3 (by omega))
 have LU:=hide (len_up fs gs lf lg n)
 have LA:=hide (fun k => len_at lf (Nat.le_refl _) k)
 have LB:=hide (fun k => len_at lg (Nat.le_refl _) k)
 obtain ⟨W,hW⟩ : ∃ W,W = (w.alloc (.cells #[.bool false,.int .u64 0,.int .u64 0,.pointer none] 29)).alloc (.cells #[.bool false,.int .u64 0,.int .u64 0,.pointer none] 29):=⟨_,rfl⟩
 have x4 : BoxAt W w.heap.size 0:=by rw [hW]; exact (BoxAt.new w false 0 0 none 0 29 (zero_at _)).but ((But.refl _ _).alloc _)
 have x5 : BoxAt W (w.heap.size + 1) 0:=by
  rw [hW]
  have h:=BoxAt.new (w.alloc (.cells #[.bool false,.int .u64 0,.int .u64 0,.pointer none] 29)) false 0 0 none 0 29 (zero_at _)
  rw [show (w.alloc (.cells #[.bool false,.int .u64 0,.int .u64 0,.pointer none] 29)).heap.size = w.heap.size + 1 from by simp] at h
  exact h
 have bW : But [] w W:=by rw [hW]; exact ((But.refl _ _).alloc _).alloc _
 have X10:=hide x4
 have X11:=hide x5
 have BW:=hide bW
 clear x4 x5 bW ha hb lf lg hla hlb hN
 go_enter Tryz.func65,Tryz.ntmps65
 go_wp2
 rw [← hW]
 clear hW
 try rw [hmax]
 generalize hg11 : w.heap.size + 1 = g11 at *
 generalize hg10 : w.heap.size = g10 at *
 go_loopw [8,9,12] (fun v8 v9 v12 wr => ∃ (j : Nat) (bl : Bool) (f : Int),j ≤ n∧v8 = .bool bl∧v9 = .int .i64 f∧v12 = .int .i64 ((n : Int) - 1 - (j : Int))∧Hid ((bl = true ↔ ∀ i,i < j→¬ 0 < upS (moreR fs gs) n i)∧BoxAt wr g10 (upS (moreR fs gs) n j)∧(∃ mn,BoxAt wr g11 mn∧Len mn (j * 5 + 1))∧But [] w wr)) (fun _ _ v12 _ => (intOf v12 + 1).toNat)
 case atStart => exact ⟨0,true,0,Nat.zero_le _,rfl,rfl,by simp,⟨fun _ i hi => absurd hi (by omega),fun _ => rfl⟩,unhide X10,⟨0,unhide X11,len_zero _ (by omega)⟩,unhide BW⟩
 case round =>
  obtain ⟨j,bl,f,hj,rfl,rfl,rfl,HI⟩:=hrel
  rename World => wr
  clear X10 X11 BW
  by_cases hlt : j < n
  ·obtain ⟨k,hk⟩ : ∃ k : Nat,k = n - (j + 1):=⟨_,rfl⟩
   have hkI : (n : Int) - 1 - (j : Int) = (k : Int):=by omega
   rw [hkI]
   have hk1 : k < 1000:=by omega
   obtain ⟨hbl,⟨⟨t10,a10,b10,q10,⟨c0,c1,c2,c3⟩,f10⟩,z10⟩,⟨mn,⟨⟨t11,a11,b11,q11,⟨d0,d1,d2,d3⟩,f11⟩,z11⟩,lmn⟩,hbw⟩:=unhide HI
   have AV:=hide (above_any (k : Int) t10 a10 b10 q10 t11 a11 b11 q11 _ wr f10)
   have hmf : ∀ (fn : Fn) (first cap : Array Value) (w : World),(Instr.makeFunc fn first cap).run Tryz.prog w = .ok (.func fn first cap) w:=fun _ _ _ _ => rfl
   have HBL:=hide hbl
   have HK:=hide hk
   have LMN:=hide lmn
   have Y11 : Hid (BoxAt wr g11 mn):=⟨⟨t11,a11,b11,q11,⟨d0,d1,d2,d3⟩,f11⟩,z11⟩
   clear hbl f10 f11 z10 z11 hbw hk lmn
   go_wp2_with fail
   refine (unhide AV).mono ?_
   rintro e w1 ⟨rfl,hb1⟩
   have Y10:=hide ((unhide HI).2.1.but hb1)
   have Y11':=hide ((unhide Y11).but hb1)
   have BW1:=hide ((unhide HI).2.2.2.trans' hb1)
   clear hb1 AV c0 c1 c2 c3 d0 d1 d2 d3 HI Y11
   by_cases hab : 0 < upS (moreR fs gs) n j
   ·rw [decide_eq_true hab]
    go_wp2_with fail
    refine (unhide AA _ (unhide BW1) k (by omega)).mono ?_
    rintro e w2 ⟨s2,x2,y2,p2,rfl,hf2,hb2⟩
    have Y10b:=hide ((unhide Y10).but hb2)
    have Y11b:=hide ((unhide Y11').but hb2)
    have BW2:=hide ((unhide BW1).trans' hb2)
    have F2:=hide hf2
    clear hb2 hf2 Y10 Y11' BW1
    go_wp2_with fail
    refine (unhide AB _ (unhide BW2) k (by omega)).mono ?_
    rintro e w3 ⟨s3,x3,y3,p3,rfl,hf3,hb3⟩
    have Y10c:=hide ((unhide Y10b).but hb3)
    have Y11c:=hide ((unhide Y11b).but hb3)
    have BW3:=hide ((unhide BW2).trans' hb3)
    have SU:=hide (in_parts (fracSub_any _ _ _ _ w3 ((unhide F2).but hb3) hf3 ((unhide LA k).mono (by omega)) ((unhide LB k).mono (by omega))))
    clear hb3 hf3 F2 Y10b Y11b BW2
    go_wp2_with fail
    refine (unhide SU).mono ?_
    rintro e w4 ⟨s4,x4,y4,p4,rfl,hf4,hb4⟩
    have hal : But [] w4 (w4.alloc (.cells #[.bool s4,.int .u64 x4,.int .u64 y4,.pointer p4] 29)):=(But.refl _ _).alloc _
    have Y10d:=hide (((unhide Y10c).but hb4).but hal)
    have Y11d:=hide (((unhide Y11c).but hb4).but hal)
    have BW4:=hide (((unhide BW3).trans' hb4).trans' hal)
    have X13:=hide (BoxAt.new w4 s4 x4 y4 p4 (moreR fs gs k) 29 hf4)
    have L10 : g10 < w4.heap.size:=((unhide Y10c).but hb4).lt
    have L11 : g11 < w4.heap.size:=((unhide Y11c).but hb4).lt
    clear hb4 hf4 hal SU Y10c Y11c BW3
    obtain ⟨⟨t5,a5,b5,q5,⟨k0,k1,k2,k3⟩,f5⟩,z5⟩:=unhide Y10d
    obtain ⟨⟨t6,a6,b6,q6,⟨l0,l1,l2,l3⟩,f6⟩,-⟩:=unhide X13
    have AD:=hide (in_parts (fracAdd_gen 10000 10000 (by omega) _ _ _ _ _ f5 f6 ((unhide LU j).mono (by omega)) ((unhide LM k).mono (by omega))))
    clear f5 f6
    go_wp2_with fail
    generalize hg13 : w4.heap.size = g13 at *
    generalize w4.alloc (.cells #[.bool s4,.int .u64 x4,.int .u64 y4,.pointer p4] 29) = V4 at *
    refine (unhide AD).mono ?_
    rintro e w5 ⟨s5,x5,y5,p5,rfl,hf5,hb5⟩
    have e10 : upS (moreR fs gs) n j + moreR fs gs k = upS (moreR fs gs) n (j + 1):=by rw [unhide HK]; rfl
    rw [e10] at hf5
    have Y10e:=hide ((unhide Y10d).but hb5)
    have Y11e:=hide ((unhide Y11d).but hb5)
    have X13e:=hide ((unhide X13).but hb5)
    have BW5:=hide ((unhide BW4).trans' hb5)
    have HF5:=hide hf5
    have z5' : ∀ i,w5.frozen? ⟨g10,i,none⟩ = false:=(unhide Y10e).2
    clear hb5 hf5 AD k0 k1 k2 k3 l0 l1 l2 l3 z5 Y10d Y11d X13 BW4
    obtain ⟨⟨t7,a7,b7,q7,⟨k0,k1,k2,k3⟩,-⟩,-⟩:=unhide Y10e
    have gl10 : g10 < w5.heap.size:=lt_of_cell k0
    go_wp2
    have hP:=put4_but w5 g10 s5 x5 y5 p5
    have m10:=(unhide Y10e).put (unhide HF5)
    have hcs : ∀ g ∈ [g10],∃ s,w5.cell? ⟨g,0,none⟩ = some (.bool s):=fun g hg => by simp at hg; subst hg; exact (unhide Y10e).bool
    have m11:=(unhide Y11e).beside hP (by simp; omega) hcs
    have m13:=(unhide X13e).beside hP (by simp; omega) hcs
    have mB:=(unhide BW5).trans hP (fun x hx => by simp at hx; subst hx; exact .inr (by omega))
    change Code.wp _ _ _ _ (put4 w5 g10 s5 x5 y5 p5)
    have M10:=hide m10
    have M11:=hide m11
    have M13:=hide m13
    have MB:=hide mB
    clear m10 m11 m13 mB hP hcs k0 k1 k2 k3 z5' Y10e Y11e X13e BW5 HF5
    generalize put4 w5 g10 s5 x5 y5 p5 = V5 at *
    obtain ⟨⟨t8,a8,b8,q8,k8,f8⟩,z8⟩:=unhide M11
    obtain ⟨⟨t9,a9,b9,q9,k9,f9⟩,-⟩:=unhide M13
    obtain ⟨ws,wx,FW,CW⟩:=whole_is (k : Int) (by omega) (by omega)
    have lint : Len ((((k : Nat) : Int)) : Rat) 1:=len_int _ (by omega)
    refine nowhere_region 10 _ _ V5 t8 a8 b8 q8 t9 a9 b9 q9 (k : Int) ws wx mn (moreR fs gs k) g11 g13 (by simp) (by simp [Act.eval]) k8 z8 (by simp [Act.eval]) (by simp [Act.eval]) k8 k9 CW (fun w' hb => fracMul_any _ _ _ _ w' (f9.but hb) (FW w') ((unhide LM k).mono (by omega)) (lint.mono (by omega))) (fun w' v' hb hv' => fracAdd_gen 10000 10000 (by omega) _ _ _ _ w' (f8.but hb) hv' ((unhide LMN).mono (by omega)) ((len_mul (unhide LM k) lint 4 (by omega)).mono (by omega))) ?_
    intro w6 v4' s6 x6 y6 p6 hb6 hf6
    simp only [putted,List.foldl_cons,List.foldl_nil,Act.put,List.setIfInBounds_toArray,List.set_cons_zero,List.set_cons_succ]
    have hP:=put4_but w6 g11 s6 x6 y6 p6
    have hcs : ∀ g ∈ [g11],∃ s,w6.cell? ⟨g,0,none⟩ = some (.bool s):=fun g hg => by simp at hg; subst hg; exact ((unhide M11).but hb6).bool
    have J11:=hide (((unhide M11).but hb6).put hf6)
    have J10:=hide (((unhide M10).but hb6).beside hP (by simp; omega) hcs)
    have JB:=hide (((unhide MB).trans' hb6).trans hP (fun x hx => by simp at hx; subst hx; exact .inr (by omega)))
    have JL:=hide (len_add (unhide LMN) (len_mul (unhide LM k) lint 4 (by omega)) ((j + 1) * 5 + 1) (by omega))
    clear hP hcs hb6 hf6 k8 k9 f8 f9 z8 lint M10 M11 M13 MB CW FW
    generalize put4 w6 g11 s6 x6 y6 p6 = V6 at *
    go_wp2
    refine ⟨⟨j + 1,false,(k : Int),by omega,rfl,rfl,by simp; omega,?_,unhide J10,⟨_,unhide J11,unhide JL⟩,unhide JB⟩,by simp [intOf]⟩
    exact ⟨fun h => by simp at h,fun h => absurd hab (h j (by omega))⟩
   ·rw [decide_eq_false hab]
    go_wp2_with fail
    refine (unhide AA _ (unhide BW1) k (by omega)).mono ?_
    rintro e w2 ⟨s2,x2,y2,p2,rfl,hf2,hb2⟩
    have Y10b:=hide ((unhide Y10).but hb2)
    have Y11b:=hide ((unhide Y11').but hb2)
    have BW2:=hide ((unhide BW1).trans' hb2)
    have F2:=hide hf2
    clear hb2 hf2 Y10 Y11' BW1
    go_wp2_with fail
    refine (unhide AB _ (unhide BW2) k (by omega)).mono ?_
    rintro e w3 ⟨s3,x3,y3,p3,rfl,hf3,hb3⟩
    have Y10c:=hide ((unhide Y10b).but hb3)
    have Y11c:=hide ((unhide Y11b).but hb3)
    have BW3:=hide ((unhide BW2).trans' hb3)
    have SU:=hide (in_parts (fracSub_any _ _ _ _ w3 ((unhide F2).but hb3) hf3 ((unhide LA k).mono (by omega)) ((unhide LB k).mono (by omega))))
    clear hb3 hf3 F2 Y10b Y11b BW2
    go_wp2_with fail
    refine (unhide SU).mono ?_
    rintro e w4 ⟨s4,x4,y4,p4,rfl,hf4,hb4⟩
    have hal : But [] w4 (w4.alloc (.cells #[.bool s4,.int .u64 x4,.int .u64 y4,.pointer p4] 29)):=(But.refl _ _).alloc _
    have Y10d:=hide (((unhide Y10c).but hb4).but hal)
    have Y11d:=hide (((unhide Y11c).but hb4).but hal)
    have BW4:=hide (((unhide BW3).trans' hb4).trans' hal)
    have X13:=hide (BoxAt.new w4 s4 x4 y4 p4 (moreR fs gs k) 29 hf4)
    have L10 : g10 < w4.heap.size:=((unhide Y10c).but hb4).lt
    have L11 : g11 < w4.heap.size:=((unhide Y11c).but hb4).lt
    clear hb4 hf4 hal SU Y10c Y11c BW3
    obtain ⟨⟨t5,a5,b5,q5,⟨k0,k1,k2,k3⟩,f5⟩,z5⟩:=unhide Y10d
    obtain ⟨⟨t6,a6,b6,q6,⟨l0,l1,l2,l3⟩,f6⟩,-⟩:=unhide X13
    have AD:=hide (in_parts (fracAdd_gen 10000 10000 (by omega) _ _ _ _ _ f5 f6 ((unhide LU j).mono (by omega)) ((unhide LM k).mono (by omega))))
    clear f5 f6
    go_wp2_with fail
    generalize hg13 : w4.heap.size = g13 at *
    generalize w4.alloc (.cells #[.bool s4,.int .u64 x4,.int .u64 y4,.pointer p4] 29) = V4 at *
    refine (unhide AD).mono ?_
    rintro e w5 ⟨s5,x5,y5,p5,rfl,hf5,hb5⟩
    have e10 : upS (moreR fs gs) n j + moreR fs gs k = upS (moreR fs gs) n (j + 1):=by rw [unhide HK]; rfl
    rw [e10] at hf5
    have Y10e:=hide ((unhide Y10d).but hb5)
    have Y11e:=hide ((unhide Y11d).but hb5)
    have X13e:=hide ((unhide X13).but hb5)
    have BW5:=hide ((unhide BW4).trans' hb5)
    have HF5:=hide hf5
    have z5' : ∀ i,w5.frozen? ⟨g10,i,none⟩ = false:=(unhide Y10e).2
    clear hb5 hf5 AD k0 k1 k2 k3 l0 l1 l2 l3 z5 Y10d Y11d X13 BW4
    obtain ⟨⟨t7,a7,b7,q7,⟨k0,k1,k2,k3⟩,-⟩,-⟩:=unhide Y10e
    have gl10 : g10 < w5.heap.size:=lt_of_cell k0
    go_wp2
    have hP:=put4_but w5 g10 s5 x5 y5 p5
    have m10:=(unhide Y10e).put (unhide HF5)
    have hcs : ∀ g ∈ [g10],∃ s,w5.cell? ⟨g,0,none⟩ = some (.bool s):=fun g hg => by simp at hg; subst hg; exact (unhide Y10e).bool
    have m11:=(unhide Y11e).beside hP (by simp; omega) hcs
    have m13:=(unhide X13e).beside hP (by simp; omega) hcs
    have mB:=(unhide BW5).trans hP (fun x hx => by simp at hx; subst hx; exact .inr (by omega))
    change Code.wp _ _ _ _ (put4 w5 g10 s5 x5 y5 p5)
    have M10:=hide m10
    have M11:=hide m11
    have M13:=hide m13
    have MB:=hide mB
    clear m10 m11 m13 mB hP hcs k0 k1 k2 k3 z5' Y10e Y11e X13e BW5 HF5
    generalize put4 w5 g10 s5 x5 y5 p5 = V5 at *
    obtain ⟨⟨t8,a8,b8,q8,k8,f8⟩,z8⟩:=unhide M11
    obtain ⟨⟨t9,a9,b9,q9,k9,f9⟩,-⟩:=unhide M13
    obtain ⟨ws,wx,FW,CW⟩:=whole_is (k : Int) (by omega) (by omega)
    have lint : Len ((((k : Nat) : Int)) : Rat) 1:=len_int _ (by omega)
    refine nowhere_region 10 _ _ V5 t8 a8 b8 q8 t9 a9 b9 q9 (k : Int) ws wx mn (moreR fs gs k) g11 g13 (by simp) (by simp [Act.eval]) k8 z8 (by simp [Act.eval]) (by simp [Act.eval]) k8 k9 CW (fun w' hb => fracMul_any _ _ _ _ w' (f9.but hb) (FW w') ((unhide LM k).mono (by omega)) (lint.mono (by omega))) (fun w' v' hb hv' => fracAdd_gen 10000 10000 (by omega) _ _ _ _ w' (f8.but hb) hv' ((unhide LMN).mono (by omega)) ((len_mul (unhide LM k) lint 4 (by omega)).mono (by omega))) ?_
    intro w6 v4' s6 x6 y6 p6 hb6 hf6
    simp only [putted,List.foldl_cons,List.foldl_nil,Act.put,List.setIfInBounds_toArray,List.set_cons_zero,List.set_cons_succ]
    have hP:=put4_but w6 g11 s6 x6 y6 p6
    have hcs : ∀ g ∈ [g11],∃ s,w6.cell? ⟨g,0,none⟩ = some (.bool s):=fun g hg => by simp at hg; subst hg; exact ((unhide M11).but hb6).bool
    have J11:=hide (((unhide M11).but hb6).put hf6)
    have J10:=hide (((unhide M10).but hb6).beside hP (by simp; omega) hcs)
    have JB:=hide (((unhide MB).trans' hb6).trans hP (fun x hx => by simp at hx; subst hx; exact .inr (by omega)))
    have JL:=hide (len_add (unhide LMN) (len_mul (unhide LM k) lint 4 (by omega)) ((j + 1) * 5 + 1) (by omega))
    clear hP hcs hb6 hf6 k8 k9 f8 f9 z8 lint M10 M11 M13 MB CW FW
    generalize put4 w6 g11 s6 x6 y6 p6 = V6 at *
    go_wp2
    refine ⟨⟨j + 1,bl,f,by omega,rfl,rfl,by simp; omega,?_,unhide J10,⟨_,unhide J11,unhide JL⟩,unhide JB⟩,by simp [intOf]⟩
    refine ⟨fun h i hi => ?_,fun h => (unhide HBL).2 (fun i hi => h i (by omega))⟩
    by_cases e : i = j
    ·rw [e]; exact hab
    ·exact (unhide HBL).1 h i (by omega)
  ·obtain rfl : j = n:=by omega
   have hkI : (j : Int) - 1 - (j : Int) = -1:=by omega
   rw [hkI]
   go_wp2
   exact bodyPost_ret (v:=.tuple #[.bool bl,.int .i64 f]) (by simp [results,Tryz.results65,go_sem]) rfl ⟨bl,f,rfl,(unhide HI).1,(unhide HI).2.2.2⟩
set_option maxHeartbeats 8000000 in
set_option maxRecDepth 100000 in
theorem always_any (va vb : Value) (fs gs : List Rat) (n : Nat) (w : World) (ha : FracsAt w va fs) (hb : FracsAt w vb gs) (hn : fs.length ≤ 1000) (hm : gs.length ≤ 1000) (lf : ∀ f ∈ fs,Len f 1) (lg : ∀ f ∈ gs,Len f 1) (hN : n = max fs.length gs.length) :
  Calls Tryz.prog 25 #[va,vb] w fun e w' => ∃ (bl : Bool) (f : Int),e = .returned (.tuple #[.bool bl,.int .i64 f,errV (bothE fs gs)])∧(bothE fs gs = 0→(bl = true ↔ ∀ j,j < n→¬ 0 < upS (moreR fs gs) n j))∧But [] w w':=by
 have CB:=hide (checkBoth_any va vb fs gs 1 w ha hb hn hm lf lg (by omega))
 have NW:=hide (fun W (h : But [] w W) => nowhere_any va vb fs gs n W (ha.but h) (hb.but h) hn hm lf lg hN)
 obtain ⟨q,cap,rfl,-,-⟩:=id ha
 obtain ⟨q',cap',rfl,-,-⟩:=id hb
 obtain ⟨be,hbe⟩ : ∃ be,be = bothE fs gs:=⟨_,rfl⟩
 rw [← hbe] at CB ⊢
 clear ha hb hbe lf lg
 obtain ⟨ev,hev⟩ : ∃ ev,ev = errV be:=⟨_,rfl⟩
 rw [← hev] at CB ⊢
 go_enter Tryz.func25,Tryz.ntmps25
 go_wp2_with fail
 refine (unhide CB).mono ?_
 rintro e w1 ⟨rfl,hb1⟩
 have B1:=hide hb1
 clear hb1 CB
 by_cases h0 : be = 0
 ·obtain rfl : ev = .nilIface:=by rw [hev,h0]; rfl
  clear hev
  go_wp2_with fail
  refine (unhide NW _ (unhide B1)).mono ?_
  rintro e w2 ⟨bl,f,rfl,hbl,hb2⟩
  have B2:=hide ((unhide B1).trans' hb2)
  have HBL:=hide hbl
  clear hb2 hbl NW
  go_wp2
  exact bodyPost_ret (v:=.tuple #[.bool bl,.int .i64 f,.nilIface]) (by simp [results,Tryz.results25,go_sem]) rfl ⟨bl,f,rfl,fun _ => unhide HBL,unhide B2⟩
 ·obtain rfl : ev = .iface 54 (.int .i64 be):=by rw [hev]; unfold errV; rw [if_neg h0]
  clear hev
  go_wp2
  exact bodyPost_ret (v:=.tuple #[.bool false,.int .i64 0,.iface 54 (.int .i64 be)]) (by simp [results,Tryz.results25,go_sem]) rfl ⟨false,0,rfl,fun h => absurd h h0,unhide B1⟩
end Go.Proofs.YtikgmhpbdcdogaaGreatDoor
