/- Lines and claims that come in. -/
import Derived.Test.YtjbboicccddhbaaGreatDoorProg
import Derived.Deep.QuietTactic
import Derived.BigQuiet
import Derived.Outline
import Derived.Shelf.Spec.BitsCarry
import Derived.Shelf.Strings.Repeat
import Derived.Deep.DeepCutAuto
import Derived.Laws.Bits64b
import Derived.Lib.ItoaNum
import Derived.Test.YtjbboicccddhbaaGreatDoorKPAW
import Derived.Test.YtjbboicccddhbaaGreatDoorKPAXd
import Derived.Test.YtjbboicccddhbaaGreatDoorKPQ4
import Derived.Test.YtjbboicccddhbaaGreatDoorKPQ5
namespace Go.Proofs.YtjbboicccddhbaaGreatDoor
open Go.ChangeShapes Go.WideShapes Go.ChangeAt Go.RowKit Go.Joins
set_option linter.unusedVariables false

theorem cellsPL : Tryz.prog.cellsOf 65 = 8:=by kernel_rfl
theorem cellsStr : Tryz.prog.cellsOf 9 = 1:=by kernel_rfl
theorem cellsCl : Tryz.prog.cellsOf 63 = 2:=by kernel_rfl
set_option maxRecDepth 100000 in
set_option maxHeartbeats 4000000 in
/-- one line, out of its eight cells -/
theorem line_of {H : Type} {enc : TypeId × Value→H} {W : World} {vs : List Value} {d : DataW H} {ps : List MemPlace} {n : Nat} (hl : vs.length = 8) (hf : DataW.trod enc Tryz.prog W 0 (fun _ => true) true n 65 vs = some (d,ps)) :
  ∃ p : PL,vs = [.int .i64 p.kd,.int .i64 p.qu,.int .i64 p.qv,.int .i64 p.fr,.int .i64 p.li,.int .i64 p.ti,.int .i64 p.pr,.string p.to]∧ps = []∧Fits (p.qu,p.qv)∧p.to.size ≤ maxLen:=by
 obtain ⟨xs,k,hk,hxy,_,hxl,hg⟩:=DataW.trod_struct Tryz.underlying65 hf
 match xs,hxl,vs,hl with
 | [y0,y1,y2,y3,y4,y5,y6],_,[v0,v1,v2,v3,v4,v5,v6,v7],_ =>
  have g0:=hg 0 _ rfl
  have g1:=hg 1 _ rfl
  have g2:=hg 2 _ rfl
  have g3:=hg 3 _ rfl
  have g4:=hg 4 _ rfl
  have g5:=hg 5 _ rfl
  have g6:=hg 6 _ rfl
  simp [cellsI,cellsQ,cellsStr] at g0 g1 g2 g3 g4 g5 g6
  obtain ⟨z0,e0,f0,w0⟩:=DataW.trod_int Tryz.underlying3 g0
  obtain ⟨z2,e2,f2,w2⟩:=DataW.trod_int Tryz.underlying3 g2
  obtain ⟨z3,e3,f3,w3⟩:=DataW.trod_int Tryz.underlying3 g3
  obtain ⟨z4,e4,f4,w4⟩:=DataW.trod_int Tryz.underlying3 g4
  obtain ⟨z5,e5,f5,w5⟩:=DataW.trod_int Tryz.underlying3 g5
  obtain ⟨s6,e6,f6,w6⟩:=DataW.trod_string Tryz.underlying9 g6
  obtain ⟨us,k2,hk2,hxy2,_,hul,hu⟩:=DataW.trod_struct Tryz.underlying23 g1
  match us,hul with
  | [a0,a1],_ =>
   have h0:=hu 0 _ rfl
   have h1:=hu 1 _ rfl
   simp [cellsI] at h0 h1
   obtain ⟨q0,c0,b0,x0⟩:=DataW.trod_int Tryz.underlying3 h0
   obtain ⟨q1,c1,b1,x1⟩:=DataW.trod_int Tryz.underlying3 h1
   simp only [List.cons.injEq,and_true] at e0 e2 e3 e4 e5 e6 c0 c1
   have Bx:=bounds_i64 x0
   have By:=bounds_i64 x1
   have hfit : Fits (q0,q1):=⟨by omega,by omega,by omega,by omega⟩
   refine ⟨⟨z0,q0,q1,z2,z3,z4,z5,s6⟩,by rw [e0,e2,e3,e4,e5,e6,c0,c1],?_,hfit,w6⟩
   have hp:=(Prod.mk.inj hxy).2
   have hq:=(congrArg Prod.snd hxy2)
   rw [hp]
   simp only [List.flatMap_cons,List.flatMap_nil,f0,f2,f3,f4,f5,f6,hq,b0,b1]
   rfl
theorem cells8L {W : World} {a : Addr} {i : Nat} {vs : List Value} (h : W.cells? 0 (a.add (i * 8)) 8 = some vs) : vs.length = 8∧(0 < i * 8 ∨ a.spot = none)∧∀ j,j < 8→W.cell? ⟨a.block,a.off + i * 8 + j,none⟩ = vs[j]?:=by
 obtain ⟨-,hl,hc⟩:=World.cells?_some h
 have one : ∀ j,j < 8→∃ v,vs[j]? = some v∧W.cell? ((a.add (i * 8)).add j) = some v:=fun j hj => by
  refine ⟨vs[j]'(by omega),List.getElem?_eq_getElem (by omega),?_⟩
  rw [hc j hj]
  exact List.getElem?_eq_getElem (by omega)
 obtain ⟨v0,-,c0⟩:=one 0 (by omega)
 have hs : (a.add (i * 8)).spot = none:=by
  have:=(add_none _ _ (spot_none c0)).2
  simpa using this
 obtain ⟨e,e2⟩:=add_none a (i * 8) hs
 refine ⟨hl,e2,fun j hj => ?_⟩
 obtain ⟨v,hv,cj⟩:=one j hj
 rw [(add_none _ _ (spot_none cj)).1,e] at cj
 rw [hv]
 exact cj
set_option maxRecDepth 100000 in
/-- lines that came in -/
theorem plines_in {H : Type} {enc : TypeId × Value→H} {W : World} {v : Value} {d : DataW H} {ps : List MemPlace} (hval : Value.okWide Tryz.prog W .any 0 50 v) (h : DataW.Trod enc Tryz.prog W 0 (fun _ => true) true 50 v d ps) :
  ∃ ls : List PL,PLsAt W v ls∧(∀ p ∈ ls,Fits (p.qu,p.qv))∧(∀ p ∈ ls,p.to.size < 9223372036854775808)∧∀ x ∈ ps,x.block < W.heap.size:=by
 obtain ⟨a,len,cap,rfl⟩:=okWide_slice Tryz.underlying50 hval
 obtain ⟨fuel,hf⟩:=h
 rcases Deep.open_slice Tryz.underlying50 hf with ⟨hc,hx⟩ | ⟨b,len',cap',m,k,D,Pl,hc,-,hl,-,hmm,hx,hall⟩
 ·have hc' : [Value.slice a len cap] = [.slice none 0 0]:=hc
  simp only [List.cons.injEq,Value.slice.injEq,and_true] at hc'
  obtain ⟨rfl,rfl,rfl⟩:=hc'
  obtain ⟨rfl,rfl⟩:=Prod.mk.inj hx
  exact ⟨[],⟨none,0,rfl,Nat.le_refl _,fun i q hq => by simp at hq⟩,fun q hq => by simp at hq,fun q hq => by simp at hq,fun x hx => by simp at hx⟩
 ·have hc' : [Value.slice a len cap] = [.slice (some b) len' cap']:=hc
  simp only [List.cons.injEq,Value.slice.injEq,and_true] at hc'
  obtain ⟨rfl,rfl,rfl⟩:=hc'
  have hlm : len ≤ m:=by rw [hmm]; simpa using hl
  rw [cellsPL] at hx hall
  have each : ∀ i,i < m→∃ p : PL,(0 < i * 8 ∨ b.spot = none)∧PLAt W b.block (b.off + i * 8) p∧Fits (p.qu,p.qv)∧p.to.size < 9223372036854775808∧Pl i = []:=fun i hi => by
   obtain ⟨vs,c0,t0⟩:=hall i hi
   obtain ⟨h1,h2,h3⟩:=cells8L c0
   obtain ⟨p,rfl,h5,h6,h7⟩:=line_of h1 t0
   refine ⟨p,h2,⟨?_,?_,?_,?_,?_,?_,?_,?_⟩,h6,by unfold maxLen at h7; omega,h5⟩
   ·exact h3 0 (by omega)
   ·exact h3 1 (by omega)
   ·exact h3 2 (by omega)
   ·exact h3 3 (by omega)
   ·exact h3 4 (by omega)
   ·exact h3 5 (by omega)
   ·exact h3 6 (by omega)
   ·exact h3 7 (by omega)
  obtain ⟨q,hq⟩:=Classical.axiomOfChoice (fun i : Nat => (by
   by_cases hi : i < m
   ·obtain ⟨q,h⟩:=each i hi
    exact ⟨q,fun _ => h⟩
   ·exact ⟨⟨0,0,0,0,0,0,0,⟨#[]⟩⟩,fun h => absurd h hi⟩ : ∃ p : PL,i < m→(0 < i * 8 ∨ b.spot = none)∧PLAt W b.block (b.off + i * 8) p∧Fits (p.qu,p.qv)∧p.to.size < 9223372036854775808∧Pl i = []))
  obtain ⟨hd,hps⟩:=Prod.mk.inj hx
  refine ⟨(List.range len).map q,⟨some b,cap,by simp,by simpa using hl,fun i z hz => ?_⟩,fun z hz => ?_,fun z hz => ?_,fun x hx' => ?_⟩
  ·rw [List.getElem?_map] at hz
   by_cases hi : i < len
   ·rw [List.getElem?_range hi,Option.map_some] at hz
    obtain rfl:=Option.some.inj hz
    have hs : b.spot = none:=by
     have:=(hq 0 (by omega)).1
     simpa using this
    refine ⟨b.block,b.off,?_,(hq i (by omega)).2.1⟩
    cases b
    simp only at hs
    subst hs
    rfl
   ·rw [List.getElem?_eq_none (by simpa using hi)] at hz
    simp at hz
  ·obtain ⟨i,hi,rfl⟩:=List.mem_map.1 hz
   exact (hq i (by have:=List.mem_range.1 hi; omega)).2.2.1
  ·obtain ⟨i,hi,rfl⟩:=List.mem_map.1 hz
   exact (hq i (by have:=List.mem_range.1 hi; omega)).2.2.2.1
  ·rw [hps] at hx'
   rcases List.mem_append.1 hx' with h1 | h1
   ·rcases Nat.eq_zero_or_pos m with h0 | h0
    ·subst h0
     simp [MemPlace.row] at h1
    ·have hb : b.block < W.heap.size:=by
      have h:=lt_of_cell (hq 0 h0).2.1.1
      exact h
     have : x.block = b.block:=by
      unfold MemPlace.row at h1
      obtain ⟨i,-,rfl⟩:=List.mem_map.1 h1
      rfl
     omega
   ·obtain ⟨i,hi,hxi⟩:=List.mem_flatMap.1 h1
    rw [(hq i (List.mem_range.1 hi)).2.2.2.2] at hxi
    simp at hxi
set_option maxRecDepth 100000 in
/-- claims that came in -/
theorem tclaims_in {H : Type} {enc : TypeId × Value→H} {W : World} {v : Value} {d : DataW H} {ps : List MemPlace} (hval : Value.okWide Tryz.prog W .any 0 51 v) (h : DataW.Trod enc Tryz.prog W 0 (fun _ => true) true 51 v d ps) :
  ∃ cs : List (Int × Int),ClAt W v cs∧∀ x ∈ ps,x.block < W.heap.size:=by
 obtain ⟨a,len,cap,rfl⟩:=okWide_slice Tryz.underlying51 hval
 obtain ⟨fuel,hf⟩:=h
 rcases Deep.open_slice_pairs Tryz.underlying51 Tryz.underlying63 cellsCl rfl rfl cellsI cellsI hf with ⟨hc,hx⟩ | ⟨b,len',cap',m,k,V0,V1,D0,D1,P0,P1,hc,-,hl,hm,hmm,hx,hall⟩
 ·have hc' : [Value.slice a len cap] = [.slice none 0 0]:=hc
  simp only [List.cons.injEq,Value.slice.injEq,and_true] at hc'
  obtain ⟨rfl,rfl,rfl⟩:=hc'
  obtain ⟨rfl,rfl⟩:=Prod.mk.inj hx
  exact ⟨[],⟨none,0,rfl,Nat.le_refl _,fun i q hq => by simp at hq⟩,fun x hx => by simp at hx⟩
 ·have hc' : [Value.slice a len cap] = [.slice (some b) len' cap']:=hc
  simp only [List.cons.injEq,Value.slice.injEq,and_true] at hc'
  obtain ⟨rfl,rfl,rfl⟩:=hc'
  have hlm : len ≤ m:=by rw [hmm]; simpa using hl
  have each : ∀ i,i < m→∃ q : Int × Int,W.cell? ⟨b.block,b.off + i * 2,none⟩ = some (.int .i64 q.1)∧W.cell? ⟨b.block,b.off + i * 2 + 1,none⟩ = some (.int .i64 q.2)∧P0 i = []∧P1 i = []:=fun i hi => by
   obtain ⟨c0,c1,t0,t1⟩:=hall i hi
   obtain ⟨x,e1,e2,w1⟩:=DataW.trod_int Tryz.underlying3 t0
   obtain ⟨y,f1,f2,w2⟩:=DataW.trod_int Tryz.underlying3 t1
   simp only [List.cons.injEq,and_true] at e1 f1
   rw [(add_none b _ (spot_none c0)).1,e1] at c0
   rw [(add_none b _ (spot_none c1)).1,f1] at c1
   exact ⟨(x,y),c0,c1,(Prod.mk.inj e2).2,(Prod.mk.inj f2).2⟩
  have hspot : 0 < m→b.spot = none:=fun h0 => by
   obtain ⟨c0,-⟩:=hall 0 h0
   have:=(add_none b _ (spot_none c0)).2
   simpa using this
  obtain ⟨q,hq⟩:=Classical.axiomOfChoice (fun i : Nat => (by
   by_cases hi : i < m
   ·obtain ⟨q,h⟩:=each i hi
    exact ⟨q,fun _ => h⟩
   ·exact ⟨(0,0),fun h => absurd h hi⟩ : ∃ q : Int × Int,i < m→W.cell? ⟨b.block,b.off + i * 2,none⟩ = some (.int .i64 q.1)∧W.cell? ⟨b.block,b.off + i * 2 + 1,none⟩ = some (.int .i64 q.2)∧P0 i = []∧P1 i = []))
  obtain ⟨hd,hps⟩:=Prod.mk.inj hx
  refine ⟨(List.range len).map q,⟨some b,cap,by simp,by simpa using hl,fun i z hz => ?_⟩,fun x hx' => ?_⟩
  ·rw [List.getElem?_map] at hz
   by_cases hi : i < len
   ·rw [List.getElem?_range hi,Option.map_some] at hz
    obtain rfl:=Option.some.inj hz
    have hs:=hspot (by omega)
    refine ⟨b.block,b.off,?_,(hq i (by omega)).1,(hq i (by omega)).2.1⟩
    cases b
    simp only at hs
    subst hs
    rfl
   ·rw [List.getElem?_eq_none (by simpa using hi)] at hz
    simp at hz
  ·rw [hps] at hx'
   have hfl : ((List.range m).flatMap fun i => P0 i ++ P1 i) = []:=by
    rw [List.flatMap_eq_nil_iff]
    intro i hi
    have h:=hq i (List.mem_range.1 hi)
    rw [h.2.2.1,h.2.2.2]
    rfl
   rw [hfl,List.append_nil] at hx'
   rcases Nat.eq_zero_or_pos m with h0 | h0
   ·subst h0
    simp [MemPlace.row] at hx'
   ·have hb : b.block < W.heap.size:=by
     have h:=lt_of_cell (hq 0 h0).1
     exact h
    have : x.block = b.block:=by
     unfold MemPlace.row at hx'
     obtain ⟨i,-,rfl⟩:=List.mem_map.1 hx'
     rfl
    omega
end Go.Proofs.YtjbboicccddhbaaGreatDoor

namespace Go.Proofs
open Go.Shelf Go.RowKit
def Tryz.lays105_ren : Go.Shelf.Ren := ⟨fun | 99 => 89 | 105 => 51 | 165 => 101 | 166 => 73 | 169 => 76 | 170 => 102 | 206 => 139 | 212 => 100 | 240 => 126 | 241 => 145 | 263 => 144 | 264 => 104 | 276 => 169 | 277 => 190 | n => n, fun | 0 => 0 | 3 => 3 | 4 => 4 | 5 => 5 | 9 => 9 | 20 => 20 | 37 => 123 | 46 => 100 | 51 => 198 | 53 => 24 | 70 => 122 | 72 => 125 | 75 => 30 | 80 => 33 | 76 => 126 | 109 => 159 | 127 => 185 | 146 => 199 | 148 => 163 | 164 => 215 | n => n, fun | n => n⟩
theorem Tryz.lays105 : Go.Proofs.Lays.n105 Tryz.prog Tryz.lays105_ren := {
  mixed := by kernel_rfl
  f99 := Tryz.func89.trans (congrArg some (by kernel_rfl))
  f105 := Tryz.func51.trans (congrArg some (by kernel_rfl))
  f165 := Tryz.func101.trans (congrArg some (by kernel_rfl))
  f166 := Tryz.func73.trans (congrArg some (by kernel_rfl))
  f169 := Tryz.func76.trans (congrArg some (by kernel_rfl))
  f170 := Tryz.func102.trans (congrArg some (by kernel_rfl))
  f206 := Tryz.func139.trans (congrArg some (by kernel_rfl))
  f212 := Tryz.func100.trans (congrArg some (by kernel_rfl))
  f240 := Tryz.func126.trans (congrArg some (by kernel_rfl))
  f241 := Tryz.func145.trans (congrArg some (by kernel_rfl))
  f263 := Tryz.func144.trans (congrArg some (by kernel_rfl))
  f264 := Tryz.func104.trans (congrArg some (by kernel_rfl))
  f276 := Tryz.func169.trans (congrArg some (by kernel_rfl))
  f277 := Tryz.func190.trans (congrArg some (by kernel_rfl))
  t0 := Tryz.underlying0
  a0 := Tryz.isAgg0
  z0 := Tryz.sizeOf0
  v0 := Tryz.zeroValue0
  t3 := Tryz.underlying3
  a3 := Tryz.isAgg3
  z3 := Tryz.sizeOf3
  v3 := Tryz.zeroValue3
  t4 := Tryz.underlying4
  a4 := Tryz.isAgg4
  z4 := Tryz.sizeOf4
  v4 := Tryz.zeroValue4
  t5 := Tryz.underlying5
  a5 := Tryz.isAgg5
  z5 := Tryz.sizeOf5
  v5 := Tryz.zeroValue5
  t9 := Tryz.underlying9
  a9 := Tryz.isAgg9
  z9 := Tryz.sizeOf9
  v9 := Tryz.zeroValue9
  t20 := Tryz.underlying20
  a20 := Tryz.isAgg20
  z20 := Tryz.sizeOf20
  v20 := Tryz.zeroValue20
  t37 := Tryz.underlying123
  a37 := Tryz.isAgg123
  z37 := Tryz.sizeOf123
  v37 := Tryz.zeroValue123
  t46 := Tryz.underlying100
  a46 := Tryz.isAgg100
  z46 := Tryz.sizeOf100
  v46 := Tryz.zeroValue100
  t51 := Tryz.underlying198
  a51 := Tryz.isAgg198
  z51 := Tryz.sizeOf198
  v51 := Tryz.zeroValue198
  t53 := Tryz.underlying24
  a53 := Tryz.isAgg24
  z53 := Tryz.sizeOf24
  v53 := Tryz.zeroValue24
  t70 := Tryz.underlying122
  a70 := Tryz.isAgg122
  z70 := Tryz.sizeOf122
  v70 := Tryz.zeroValue122
  t72 := Tryz.underlying125
  a72 := Tryz.isAgg125
  z72 := Tryz.sizeOf125
  v72 := Tryz.zeroValue125
  t75 := Tryz.underlying30
  a75 := Tryz.isAgg30
  z75 := Tryz.sizeOf30
  v75 := Tryz.zeroValue30
  t76 := Tryz.underlying126
  a76 := Tryz.isAgg126
  z76 := Tryz.sizeOf126
  v76 := Tryz.zeroValue126
  t109 := Tryz.underlying159
  a109 := Tryz.isAgg159
  z109 := Tryz.sizeOf159
  v109 := Tryz.zeroValue159
  t127 := Tryz.underlying185
  a127 := Tryz.isAgg185
  z127 := Tryz.sizeOf185
  v127 := Tryz.zeroValue185
  t146 := Tryz.underlying199
  a146 := Tryz.isAgg199
  z146 := Tryz.sizeOf199
  v146 := Tryz.zeroValue199
  t148 := Tryz.underlying163
  a148 := Tryz.isAgg163
  z148 := Tryz.sizeOf163
  v148 := Tryz.zeroValue163
  t164 := Tryz.underlying215
  a164 := Tryz.isAgg215
  z164 := Tryz.sizeOf215
  v164 := Tryz.zeroValue215 }
theorem Tryz.repeatExtra : Builder.Extra Tryz.prog Tryz.lays105_ren where
 sizeBuilder:=by kernel_rfl
 liesBuilder:=by kernel_rfl
 t5:=Tryz.lays105.t5
 a5:=Tryz.lays105.a5
 z5:=Tryz.lays105.z5
 v5:=Tryz.lays105.v5
 infoByte:=by kernel_rfl
 cellsByte:=by kernel_rfl
 sizeByte:=by kernel_rfl
 neB5:=by decide
theorem Tryz.strings_Repeat (s : ByteArray) (c : Nat) (w : World) (hc : c ≤ 9223372036854775807) (hlen : s.size * c ≤ 140737488355328) :
  Calls Tryz.prog 51 #[.string s,.int .i64 c] w fun e w' => e = .returned (.string ⟨(Lib.repeatL s.data.toList c).toArray⟩)∧Below w.heap.size w w':=Any.strings_Repeat Tryz.lays105 Tryz.repeatExtra s c w hc hlen
end Go.Proofs

namespace Go.Proofs.YtjbboicccddhbaaGreatDoor
open Go.RowKit

set_option maxHeartbeats 8000000 in
set_option maxRecDepth 100000 in
theorem parse_gen (t : ByteArray) (s : Bool) (k n1 n2 : Int) (P : ByteArray→ByteArray→Prop) (h1 : n1 ≤ 60) (h2 : n2 ≤ 60) (X Y : Nat) (hY : 0 < Y) (lx : (wd 18446744073709551616 X).length ≤ 1000000) (ly : (wd 18446744073709551616 Y).length ≤ 1000000) (f : Rat) (hf : f.num * (Y : Int) = sgn s X * (f.den : Int)) (w : World)
  (CU : Hid (∀ W,Calls Tryz.prog 41 #[.string t] W fun e w' => ∃ tw tb,e = .returned (.tuple #[.agg #[.bool s,.string tw,.int .u8 k,.string tb,.bool false],.int .i64 (-1)])∧P tw tb∧But [] W w'))
  (AB : Hid (∀ tw tb,P tw tb→∀ W,Calls Tryz.prog 42 #[.agg #[.bool s,.string tw,.int .u8 k,.string tb,.bool false]] W fun e w' => e = .returned (.int .i64 n1)∧But [] W w'))
  (UN : Hid (∀ tw tb,P tw tb→∀ W,Calls Tryz.prog 43 #[.agg #[.bool s,.string tw,.int .u8 k,.string tb,.bool false]] W fun e w' => e = .returned (.int .i64 n2)∧But [] W w'))
  (NU : Hid (∀ tw tb,P tw tb→∀ W,Calls Tryz.prog 44 #[.agg #[.bool s,.string tw,.int .u8 k,.string tb,.bool false]] W fun e w' => ∃ v1 v2,e = .returned (.tuple #[v1,v2])∧Sl .u64 w' v1 (wd 18446744073709551616 X)∧Sl .u64 w' v2 (wd 18446744073709551616 Y)∧But [] W w')) :
  Calls Tryz.prog 10 #[.string t] w fun e w' => ∃ v,e = .returned (.tuple #[v,.nilIface])∧FracAt w' v f∧But [] w w':=by
 have hyl : 0 < (wd 18446744073709551616 Y).length:=by rw [Nat.pos_iff_ne_zero]; intro e; rw [wd_len_zero (by omega)] at e; omega
 have ON:=hide (fun (W : World) (v1 v2 : Value) (a : Sl .u64 W v1 (wd 18446744073709551616 X)) (b : Sl .u64 W v2 (wd 18446744073709551616 Y)) => ofNumbers_any s v1 v2 X Y W a b hY lx ly f hf)
 have d1 : decide (60 < n1) = false:=decide_eq_false (by omega)
 have d2 : decide (60 < n2) = false:=decide_eq_false (by omega)
 obtain ⟨W,hW⟩ : ∃ W,W = w.alloc (.cells #[.bool false,.int .u64 0,.int .u64 0,.pointer none] 27):=⟨_,rfl⟩
 have r0 : W.cell? ⟨w.heap.size,0,none⟩ = some (.bool false):=by rw [hW]; simp
 have r1 : W.cell? ⟨w.heap.size,1,none⟩ = some (.int .u64 0):=by rw [hW]; simp
 have r2 : W.cell? ⟨w.heap.size,2,none⟩ = some (.int .u64 0):=by rw [hW]; simp
 have r3 : W.cell? ⟨w.heap.size,3,none⟩ = some (.pointer none):=by rw [hW]; simp
 have fz : ∀ j,W.frozen? ⟨w.heap.size,j,none⟩ = false:=fun j => by rw [hW]; simp
 have BL : Hid (Blank W w.heap.size):=⟨r0,r1,r2,r3,fun j hj => by rw [hW,World.cell?_alloc_new]; simp; omega⟩
 have HB : Hid (But [] w W):=by show But _ _ _; rw [hW]; exact (But.refl _ _).alloc _
 have HW:=hide hW
 clear hW hf lx ly hY
 go_enter Tryz.func10,Tryz.ntmps10
 go_wp2_with fail
 rw [← unhide HW]
 obtain ⟨gr,hgr⟩ : ∃ gr,gr = w.heap.size:=⟨_,rfl⟩
 rw [← hgr] at r0 r1 r2 r3 fz BL
 rw [← hgr]
 have HGR : Hid (w.heap.size ≤ gr):=by show _ ≤ _; omega
 clear hgr HW
 have grl : gr < W.heap.size:=lt_of_cell r0
 refine (unhide CU _).mono ?_
 rintro e w1 ⟨tw,tb,rfl,hP,hb1⟩
 have AB':=hide (unhide AB tw tb hP)
 have UN':=hide (unhide UN tw tb hP)
 have NU':=hide (unhide NU tw tb hP)
 have KW:=hide hb1
 clear AB UN NU CU hP hb1
 go_wp2_with fail
 obtain ⟨W1,hW1⟩ : ∃ W1,W1 = w1.alloc (.cells #[.bool s,.string tw,.int .u8 k,.string tb,.bool false] 88):=⟨_,rfl⟩
 have c0 : W1.cell? ⟨w1.heap.size,0,none⟩ = some (.bool s):=by rw [hW1]; simp
 have c1 : W1.cell? ⟨w1.heap.size,1,none⟩ = some (.string tw):=by rw [hW1]; simp
 have c2 : W1.cell? ⟨w1.heap.size,2,none⟩ = some (.int .u8 k):=by rw [hW1]; simp
 have c3 : W1.cell? ⟨w1.heap.size,3,none⟩ = some (.string tb):=by rw [hW1]; simp
 have c4 : W1.cell? ⟨w1.heap.size,4,none⟩ = some (.bool false):=by rw [hW1]; simp
 have KW1 : Hid (But [] W W1):=by show But _ _ _; rw [hW1]; exact (unhide KW).alloc _
 rw [← hW1]
 clear hW1 KW
 generalize w1.heap.size = gw at *
 refine (unhide AB' _).mono ?_
 rintro e w2 ⟨rfl,hb⟩
 replace c0:=hb.cell_some c0 (by simp)
 replace c1:=hb.cell_some c1 (by simp)
 replace c2:=hb.cell_some c2 (by simp)
 replace c3:=hb.cell_some c3 (by simp)
 replace c4:=hb.cell_some c4 (by simp)
 replace KW1 : Hid (But [] W w2):=(unhide KW1).trans' hb
 clear hb
 go_wp2_with fail
 refine (unhide UN' _).mono ?_
 rintro e w3 ⟨rfl,hb⟩
 replace c0:=hb.cell_some c0 (by simp)
 replace c1:=hb.cell_some c1 (by simp)
 replace c2:=hb.cell_some c2 (by simp)
 replace c3:=hb.cell_some c3 (by simp)
 replace c4:=hb.cell_some c4 (by simp)
 replace KW1 : Hid (But [] W w3):=(unhide KW1).trans' hb
 clear hb
 go_wp2_with fail
 refine (unhide NU' _).mono ?_
 rintro e w4 ⟨v1,v2,rfl,hv1,hv2,hb⟩
 replace c0:=hb.cell_some c0 (by simp)
 replace c1:=hb.cell_some c1 (by simp)
 replace c2:=hb.cell_some c2 (by simp)
 replace c3:=hb.cell_some c3 (by simp)
 replace c4:=hb.cell_some c4 (by simp)
 replace KW1 : Hid (But [] W w4):=(unhide KW1).trans' hb
 have H1:=hide hv1
 have H2:=hide hv2
 obtain ⟨a2,e2,rfl,-,-⟩:=hv2
 clear hv1
 clear hb
 generalize (wd 18446744073709551616 Y).length = ny at *
 have n0 : ((ny : Int) == 0) = false:=beq_eq_false_iff_ne.2 (by omega)
 go_wp2_with fail
 refine (unhide ON _ v1 _ (unhide H1) (unhide H2)).mono ?_
 rintro e w5 ⟨vr,rfl,hvr,hb⟩
 have K5 : But [] W w5:=(unhide KW1).trans' hb
 have B5 : Hid (But [] w w5):=(unhide HB).trans' K5
 have HVR:=hide hvr
 obtain ⟨x8,y8,p8,rfl,-⟩:=hvr.agg
 generalize decide (f.num < 0) = r8 at *
 have u0:=K5.cell_some r0 (by simp)
 have u1:=K5.cell_some r1 (by simp)
 have u2:=K5.cell_some r2 (by simp)
 have u3:=K5.cell_some r3 (by simp)
 have uf : ∀ j,w5.frozen? ⟨gr,j,none⟩ = false:=fun j => (K5.frozen (p:=⟨gr,j,none⟩) grl (by simp)).trans (fz j)
 have BL5 : Hid (Blank w5 gr):=(unhide BL).but K5
 clear hvr hb K5 r0 r1 r2 r3 fz grl c0 c1 c2 c3 c4
 go_wp2
 have hBg : But [gr] w5 ((((w5.setCell ⟨gr,0,none⟩ (.bool r8)).setCell ⟨gr,1,none⟩ (.int .u64 x8)).setCell ⟨gr,2,none⟩ (.int .u64 y8)).setCell ⟨gr,3,none⟩ (.pointer p8)):=(((((But.refl [gr] w5).setCell (.inl (by simp)) _).setCell (.inl (by simp)) _).setCell (.inl (by simp)) _).setCell (.inl (by simp)) _)
 have hBf:=((((unhide B5).setCell (p:=⟨gr,0,none⟩) (.inr (unhide HGR)) (.bool r8)).setCell (p:=⟨gr,1,none⟩) (.inr (unhide HGR)) (.int .u64 x8)).setCell (p:=⟨gr,2,none⟩) (.inr (unhide HGR)) (.int .u64 y8)).setCell (p:=⟨gr,3,none⟩) (.inr (unhide HGR)) (.pointer p8)
 exact bodyPost_ret (v:=.tuple #[.agg #[.bool r8,.int .u64 x8,.int .u64 y8,.pointer p8],.nilIface]) (by simp [results,Tryz.results10,go_sem,u0,u1,u2,u3]) rfl ⟨_,rfl,(unhide BL5).frac (unhide HVR) hBg,hBf⟩

theorem dval_words {ds : List UInt8} (hd : Digits ds) (hl : ds.length ≤ 1000000) : (wd 18446744073709551616 (dval ds)).length ≤ 1000000 :=
 Nat.le_trans (wd_length_le (B:=18446744073709551616) (by omega) _ ds.length (Nat.lt_of_lt_of_le (dval_lt hd) (Nat.pow_le_pow_left (by omega) _))) hl
theorem size_list {t : ByteArray} {ds : List UInt8} (h : t.data.toList = ds) : t.size = ds.length:=by rw [← h]; simp
/-- a sign's byte -/
def sg (s : Bool) : List UInt8:=if s then [45] else []

/-- a whole number's text -/
theorem parse_whole (t : ByteArray) (s : Bool) (ds : List UInt8) (w : World) (ht : t.data.toList = sg s ++ ds) (hd : Digits ds) (h0 : 0 < ds.length) (hl : ds.length ≤ 60) (f : Rat) (hf : f.num = sgn s (dval ds) * (f.den : Int)) :
  Calls Tryz.prog 10 #[.string t] w fun e w' => ∃ v,e = .returned (.tuple #[v,.nilIface])∧FracAt w' v f∧But [] w w':=by
 refine parse_gen t s 0 (ds.length : Int) 1 (fun tw tb => tw.data.toList = ds∧tb = ⟨#[]⟩) (by omega) (by omega) (dval ds) 1 (by omega) (dval_words hd (by omega)) (Nat.le_trans (wd_length_le (by omega) _ 1 (by omega)) (by omega)) f (by simpa using hf) w ?_ ?_ ?_ ?_
 ·intro W
  cases s
  ·refine (cut_whole t ds W ht hd h0 (by omega)).mono ?_
   rintro e w' ⟨tw,rfl,h1,h2⟩
   exact ⟨tw,⟨#[]⟩,rfl,⟨h1,rfl⟩,h2⟩
  ·refine (cut_neg_whole t ds W ht hd h0 (by omega)).mono ?_
   rintro e w' ⟨tw,rfl,h1,h2⟩
   exact ⟨tw,⟨#[]⟩,rfl,⟨h1,rfl⟩,h2⟩
 ·rintro tw tb ⟨h1,rfl⟩ W
  have h:=aboveDigits_0 s tw ⟨#[]⟩ W (by rw [size_list h1]; omega) (by decide)
  rw [size_list h1] at h
  exact h
 ·rintro tw tb ⟨h1,rfl⟩ W
  exact underDigits_0 s tw ⟨#[]⟩ W (by rw [size_list h1]; omega) (by decide)
 ·rintro tw tb ⟨h1,rfl⟩ W
  exact numbers_0 s tw ds W h1 hd (by omega)

/-- a fraction's text, with a line -/
theorem parse_line (t : ByteArray) (s : Bool) (ds es : List UInt8) (w : World) (ht : t.data.toList = sg s ++ ds ++ (47 :: es)) (hd : Digits ds) (h0 : 0 < ds.length) (hl : ds.length ≤ 60) (hde : Digits es) (he0 : 0 < es.length) (hel : es.length ≤ 60) (hpos : 0 < dval es) (f : Rat) (hf : f.num * (dval es : Int) = sgn s (dval ds) * (f.den : Int)) :
  Calls Tryz.prog 10 #[.string t] w fun e w' => ∃ v,e = .returned (.tuple #[v,.nilIface])∧FracAt w' v f∧But [] w w':=by
 refine parse_gen t s 47 (ds.length : Int) (es.length : Int) (fun tw tb => tw.data.toList = ds∧tb.data.toList = es) (by omega) (by omega) (dval ds) (dval es) hpos (dval_words hd (by omega)) (dval_words hde (by omega)) f hf w ?_ ?_ ?_ ?_
 ·intro W
  cases s
  ·refine (cut_lineQ t ds es W ht hd h0 (by omega) hde he0 (by omega)).mono ?_
   rintro e w' ⟨tw,tb,rfl,h1,h2,h3⟩
   exact ⟨tw,tb,rfl,⟨h1,h2⟩,h3⟩
  ·refine (cut_neg_line t ds es W ht hd h0 (by omega) hde he0 (by omega)).mono ?_
   rintro e w' ⟨tw,tb,rfl,h1,h2,h3⟩
   exact ⟨tw,tb,rfl,⟨h1,h2⟩,h3⟩
 ·rintro tw tb ⟨h1,h2⟩ W
  have h:=aboveDigits_47 s tw tb W (by rw [size_list h1]; omega) (by rw [size_list h2]; omega)
  rw [size_list h1] at h
  exact h
 ·rintro tw tb ⟨h1,h2⟩ W
  have h:=underDigits_47 s tw tb W (by rw [size_list h1]; omega) (by rw [size_list h2]; omega)
  rw [size_list h2] at h
  exact h
 ·rintro tw tb ⟨h1,h2⟩ W
  exact numbers_47 s tw tb ds W h1 hd (by omega) es h2 hde (by omega)

end Go.Proofs.YtjbboicccddhbaaGreatDoor

namespace Go.Proofs.YtjbboicccddhbaaGreatDoor
open Go.RowKit

theorem dec_upto (n m : Nat) (hm : 0 < m) (h : n < 10 ^ m) : (Lib.decDigits n).length ≤ m:=by
 rcases Nat.eq_zero_or_pos n with rfl | h0
 ·rw [Lib.decDigits_length,Lib.nDigits_small (by omega)]; omega
 ·rw [← rdig_rev n h0,List.length_reverse]; exact rdig_length n m h
end Go.Proofs.YtjbboicccddhbaaGreatDoor

namespace Go.Proofs.YtjbboicccddhbaaGreatDoor
open Go.RowKit

/-- a fraction's own text, read again -/
theorem parse_text (t : ByteArray) (f : Rat) (w : World) (ht : t = fracTxt (decide (f.num < 0)) f.num.natAbs f.den) (hN : f.num.natAbs < 18446744073709551616) (hD : f.den < 18446744073709551616) :
  Calls Tryz.prog 10 #[.string t] w fun e w' => ∃ v,e = .returned (.tuple #[v,.nilIface])∧FracAt w' v f∧But [] w w':=by
 obtain ⟨d1,d2,d3⟩:=dec_digits f.num.natAbs
 obtain ⟨e1,e2,e3⟩:=dec_digits f.den
 have l1:=dec_upto f.num.natAbs 20 (by omega) (by omega)
 have l2:=dec_upto f.den 20 (by omega) (by omega)
 have hs : f.num = sgn (decide (f.num < 0)) f.num.natAbs:=by
  unfold sgn
  by_cases h : f.num < 0
  ·rw [if_pos (decide_eq_true h)]; omega
  ·rw [if_neg (by simpa using h)]; omega
 have hsg : ∀ s : Bool,∀ x : ByteArray,(if s then (⟨#[45]⟩ : ByteArray) ++ x else x).data.toList = sg s ++ x.data.toList:=fun s x => by
  cases s
  ·simp [sg]
  ·simp [sg]
 by_cases hq : f.den = 1
 ·refine parse_whole t (decide (f.num < 0)) (Lib.decDigits f.num.natAbs) w ?_ d1 d3 (by omega) f ?_
  ·rw [ht]
   unfold fracTxt
   rw [if_pos hq,ba_nil,hsg]
  ·rw [d2,← hs,hq]; simp
 ·refine parse_line t (decide (f.num < 0)) (Lib.decDigits f.num.natAbs) (Lib.decDigits f.den) w ?_ d1 d3 (by omega) e1 e3 (by omega) (by rw [e2]; exact den_pos f) f ?_
  ·rw [ht]
   unfold fracTxt
   rw [if_neg hq,ba_list,hsg,ba_list]
   rfl
  ·rw [d2,e2,← hs]
end Go.Proofs.YtjbboicccddhbaaGreatDoor

namespace Go.Proofs.YtjbboicccddhbaaGreatDoor
open Go.RowKit Go.Shelf
set_option linter.unusedVariables false

theorem lnCheck_ok (l : Ln) (s : Bool) (x y : Int) (w : World) (hf : ∀ W,FracAt W (.agg #[.bool s,.int .u64 x,.int .u64 y,.pointer none]) l.f) (lf : Len l.f 1) (hb : l.to.size < 9223372036854775808) (hok : LnOk l) : ∀ W,But [] w W→Calls Tryz.prog 122 #[lineV l.kd s x y none l.fr l.li l.ti l.pr l.to] W fun e w' => e = .returned .nilIface∧But [] W w':=fun W _ => by
 refine (lineCheck_any l s x y none W (hf W) lf hb).mono ?_
 rintro e w' ⟨r,rfl,h1,-,hb⟩
 rw [h1 hok]
 exact ⟨rfl,hb⟩
/-- the words of a line that cedes -/
def wsCede (t nm : List UInt8) : List (List UInt8):=[[99,101,100,101],t,[116,111],nm]
theorem readCede_any (f : Rat) (s : Bool) (x y : Int) (t nm : List UInt8) (hf : ∀ W,FracAt W (.agg #[.bool s,.int .u64 x,.int .u64 y,.pointer none]) f) (lf : Len f 1) (CP : ∀ W,Calls Tryz.prog 10 #[strV t] W fun e w' => e = .returned (.tuple #[.agg #[.bool s,.int .u64 x,.int .u64 y,.pointer none],.nilIface])∧But [] W w') (hnm : nm.length ≤ 1000000) (hok : LnOk ⟨1,f,0,0,0,0,⟨nm.toArray⟩⟩) (q : Option Addr) (cw : Nat) (mx : Int) (w : World) (hw : WordsAt w (.slice q 4 cw) (wsCede t nm)) (hF : FormsAt w) (hm : w.cell? ⟨5,0,none⟩ = some (.int .i64 mx)) :
  Calls Tryz.prog 79 #[.slice q 4 cw] w fun e w' => e = .returned (.tuple #[.agg #[.int .i64 1,.bool s,.int .u64 x,.int .u64 y,.pointer none,.int .i64 0,.int .i64 0,.int .i64 0,.int .i64 0,.string ⟨nm.toArray⟩],.nilIface])∧But [] w w':=by
 refine treatyRead_any 0 (by omega) (wsCede t nm) q 4 cw rfl rfl (fun k => match k with
  | 0 => [.int .i64 1,.bool false,.int .u64 0,.int .u64 0,.pointer none,.int .i64 0,.int .i64 0,.int .i64 0,.int .i64 0,.string ⟨#[]⟩]
  | 1 => [.int .i64 1,.bool false,.int .u64 0,.int .u64 0,.pointer none,.int .i64 0,.int .i64 0,.int .i64 0,.int .i64 0,.string ⟨#[]⟩]
  | 2 => [.int .i64 1,.bool s,.int .u64 x,.int .u64 y,.pointer none,.int .i64 0,.int .i64 0,.int .i64 0,.int .i64 0,.string ⟨#[]⟩]
  | 3 => [.int .i64 1,.bool s,.int .u64 x,.int .u64 y,.pointer none,.int .i64 0,.int .i64 0,.int .i64 0,.int .i64 0,.string ⟨#[]⟩]
  | _ => [.int .i64 1,.bool s,.int .u64 x,.int .u64 y,.pointer none,.int .i64 0,.int .i64 0,.int .i64 0,.int .i64 0,.string ⟨nm.toArray⟩]) 1 s x y 0 0 0 0 ⟨nm.toArray⟩ mx w hw rfl rfl (fun j hj => absurd hj (by omega)) rfl ?_ (lnCheck_ok ⟨1,f,0,0,0,0,⟨nm.toArray⟩⟩ s x y w hf lf (by show nm.toArray.size < _; simp; omega) hok) hF hm
 intro k hk W g hb hN
 have : k = 0 ∨ k = 1 ∨ k = 2 ∨ k = 3:=by omega
 rcases this with rfl | rfl | rfl | rfl
 ·refine (hear_cede g W).mono ?_
  rintro e w' ⟨rfl,rfl⟩
  exact ⟨rfl,hN,But.refl _ _⟩
 ·exact hear_SHARE ⟨t.toArray⟩ s x y g _ _ _ _ _ _ _ _ _ _ W (CP W) hN
 ·refine (hear_to g W).mono ?_
  rintro e w' ⟨rfl,rfl⟩
  exact ⟨rfl,hN,But.refl _ _⟩
 ·refine (hear_NAME ⟨nm.toArray⟩ (by show nm.toArray.size ≤ _; simp; omega) g _ W (hN.cells 9 _ rfl) hN.loose).mono ?_
  rintro e w' ⟨w1,rfl,hb1,rfl⟩
  have hS:=but_setCells w1 g [.string ⟨nm.toArray⟩] 9
  exact ⟨rfl,(hN.but hb1).putAt 9 [.string ⟨nm.toArray⟩] (by simp),(hb1.of_nil (l:=[g])).trans hS (fun x hx => .inl hx)⟩
/-- the words of an excess that is never had again -/
def wsExc (fr li : Int) (nm : List UInt8) : List (List UInt8):=[[101,120,99,101,115,115],Lib.itoa fr,[108,105,109,105,116],Lib.itoa li,[116,111],nm]
theorem readExc_any (fr li : Int) (nm : List UInt8) (hnm : nm.length ≤ 1000000) (hok : LnOk ⟨3,0,fr,li,0,0,⟨nm.toArray⟩⟩) (q : Option Addr) (cw : Nat) (mx : Int) (w : World) (htab : Lib.TabIs Tryz.prog w "internal/strconv.uint64pow10" .u64 Lib.pow10Tab) (hw : WordsAt w (.slice q 6 cw) (wsExc fr li nm)) (hF : FormsAt w) (hm : w.cell? ⟨5,0,none⟩ = some (.int .i64 mx)) :
  Calls Tryz.prog 79 #[.slice q 6 cw] w fun e w' => e = .returned (.tuple #[.agg #[.int .i64 3,.bool false,.int .u64 0,.int .u64 0,.pointer none,.int .i64 fr,.int .i64 li,.int .i64 0,.int .i64 0,.string ⟨nm.toArray⟩],.nilIface])∧But [] w w':=by
 obtain ⟨-,-,⟨r1,r2,-,-⟩,-⟩:=id hok
 simp only at r1 r2
 refine treatyRead_any 2 (by omega) (wsExc fr li nm) q 6 cw rfl rfl (fun k => match k with
  | 0 => [.int .i64 3,.bool false,.int .u64 0,.int .u64 0,.pointer none,.int .i64 0,.int .i64 0,.int .i64 0,.int .i64 0,.string ⟨#[]⟩]
  | 1 => [.int .i64 3,.bool false,.int .u64 0,.int .u64 0,.pointer none,.int .i64 0,.int .i64 0,.int .i64 0,.int .i64 0,.string ⟨#[]⟩]
  | 2 => [.int .i64 3,.bool false,.int .u64 0,.int .u64 0,.pointer none,.int .i64 fr,.int .i64 0,.int .i64 0,.int .i64 0,.string ⟨#[]⟩]
  | 3 => [.int .i64 3,.bool false,.int .u64 0,.int .u64 0,.pointer none,.int .i64 fr,.int .i64 0,.int .i64 0,.int .i64 0,.string ⟨#[]⟩]
  | 4 => [.int .i64 3,.bool false,.int .u64 0,.int .u64 0,.pointer none,.int .i64 fr,.int .i64 li,.int .i64 0,.int .i64 0,.string ⟨#[]⟩]
  | 5 => [.int .i64 3,.bool false,.int .u64 0,.int .u64 0,.pointer none,.int .i64 fr,.int .i64 li,.int .i64 0,.int .i64 0,.string ⟨#[]⟩]
  | _ => [.int .i64 3,.bool false,.int .u64 0,.int .u64 0,.pointer none,.int .i64 fr,.int .i64 li,.int .i64 0,.int .i64 0,.string ⟨nm.toArray⟩]) 3 false 0 0 fr li 0 0 ⟨nm.toArray⟩ mx w hw rfl rfl (fun j hj => ?_) rfl ?_ (lnCheck_ok ⟨3,0,fr,li,0,0,⟨nm.toArray⟩⟩ false 0 0 w (fun W => zeroX_at W) (show Len (0 : Rat) 1 from len_of (m:=1) (n:=1) (by decide) (by decide) 1 (by omega) (by omega)) (by show nm.toArray.size < _; simp; omega) hok) hF hm
 ·have : j = 0 ∨ j = 1:=by omega
  rcases this with rfl | rfl
  ·exact .inl (by simp [wsExc,fmW])
  ·exact .inl (by simp [wsExc,fmW])
 intro k hk W g hb hN
 have : k = 0 ∨ k = 1 ∨ k = 2 ∨ k = 3 ∨ k = 4 ∨ k = 5:=by omega
 rcases this with rfl | rfl | rfl | rfl | rfl | rfl
 ·refine (hear_excess g W).mono ?_
  rintro e w' ⟨rfl,rfl⟩
  exact ⟨rfl,hN,But.refl _ _⟩
 ·refine (hear_FROM fr r1.1 (by omega) ⟨(Lib.itoa fr).toArray⟩ rfl g _ W (TabIs.but htab hb) (hN.cells 5 _ rfl) hN.loose).mono ?_
  rintro e w' ⟨w1,rfl,hb1,rfl⟩
  have hS:=but_setCells w1 g [.int .i64 fr] 5
  exact ⟨rfl,(hN.but hb1).putAt 5 [.int .i64 fr] (by simp),(hb1.of_nil (l:=[g])).trans hS (fun x hx => .inl hx)⟩
 ·refine (hear_limit g W).mono ?_
  rintro e w' ⟨rfl,rfl⟩
  exact ⟨rfl,hN,But.refl _ _⟩
 ·refine (hear_LIMIT li r2.1 (by omega) ⟨(Lib.itoa li).toArray⟩ rfl g _ W (TabIs.but htab hb) (hN.cells 6 _ rfl) hN.loose).mono ?_
  rintro e w' ⟨w1,rfl,hb1,rfl⟩
  have hS:=but_setCells w1 g [.int .i64 li] 6
  exact ⟨rfl,(hN.but hb1).putAt 6 [.int .i64 li] (by simp),(hb1.of_nil (l:=[g])).trans hS (fun x hx => .inl hx)⟩
 ·refine (hear_to g W).mono ?_
  rintro e w' ⟨rfl,rfl⟩
  exact ⟨rfl,hN,But.refl _ _⟩
 ·refine (hear_NAME ⟨nm.toArray⟩ (by show nm.toArray.size ≤ _; simp; omega) g _ W (hN.cells 9 _ rfl) hN.loose).mono ?_
  rintro e w' ⟨w1,rfl,hb1,rfl⟩
  have hS:=but_setCells w1 g [.string ⟨nm.toArray⟩] 9
  exact ⟨rfl,(hN.but hb1).putAt 9 [.string ⟨nm.toArray⟩] (by simp),(hb1.of_nil (l:=[g])).trans hS (fun x hx => .inl hx)⟩
end Go.Proofs.YtjbboicccddhbaaGreatDoor
