/- The built-in copy between rows of words, -/
import Derived.Laws.CopyOwn
import Derived.Shelf.Strings.Cut
import Derived.Test.YtlckjpelcmjimaaGreatDoorProg
import Derived.Test.YtlckjpelcmjimaaGreatDoorKPBase
namespace Go.Proofs.YtlckjpelcmjimaaGreatDoor
open Go.RowKit
theorem getD_map_u64 (xs:List Nat) (j:Nat) (v:Value) (h:(xs.map fun (x:Nat)=>Value.int .u64 (x:Int))[j]? = some v):j<xs.length∧v=.int .u64 (xs[j]?.getD 0:Nat):=by
 simp only [List.getElem?_map,Option.map_eq_some_iff] at h
 obtain ⟨x,hx,rfl⟩:=h
 exact ⟨(List.getElem?_eq_some_iff.1 hx).1,by rw [hx];rfl⟩
theorem addr_add (b off j:Nat):(⟨b,off,none⟩:Addr).add j=⟨b,off+j,none⟩:=by by_cases h:j=0 <;> simp [Addr.add,h]
theorem bf (w:World) (g:Nat):∀ (vs:List Value) (o:Nat),But [g] w (w.setCells g o vs)
 | [],_=>But.refl _ _
 | v::vs,o=>by
  rw [World.setCells]
  exact ((But.refl [g] w).setCell (p:=⟨g,o,none⟩) (by simp) v).trans (bf _ g vs (o+1)) (fun _ h=>.inl h)
theorem ints_setCells (g:Nat):∀ (xs:List Nat) (o:Nat) (w:World),Ints .u64 w g→Ints .u64 (w.setCells g o (xs.map fun (x:Nat)=>Value.int .u64 (x:Int))) g
 | [],_,_,h=>h
 | x::xs,o,w,h=>by
  rw [List.map_cons,World.setCells]
  exact ints_setCells g xs (o+1) _ (h.set o x)
theorem seg_copy {w:World} {g o:Nat} {rs:List Nat} (h:Seg w g o rs) (xs:List Nat) (hl:xs.length≤rs.length) :
  Seg (w.setCells g o (xs.map fun (x:Nat)=>Value.int .u64 (x:Int))) g o (xs++rs.drop xs.length)∧Part g o xs.length w (w.setCells g o (xs.map fun (x:Nat)=>Value.int .u64 (x:Int))):=by
 refine ⟨⟨fun i hi=>⟨?_,?_⟩,fun h0=>ints_setCells _ _ _ _ (h.ints (by simp only [List.length_append,List.length_drop] at h0;omega))⟩,bf _ _ _ _,fun i hi=>?_,fun i=>World.frozen?_setCells _ _ _ _ _⟩
 ·simp only [List.length_append,List.length_drop] at hi
  rcases Nat.lt_or_ge i xs.length with h1 | h1
  ·have:=World.cell?_setCells_in g (xs.map fun (x:Nat)=>Value.int .u64 (x:Int)) o w (fun j hj=>by rw [(h j (by simp at hj;omega)).1];rfl) i (by simpa using h1)
   rw [this,List.getElem?_append_left h1]
   simp [List.getElem?_eq_getElem h1]
  ·rw [World.cell?_setCells_out g _ o w _ (fun _ _=>.inr (by simp;omega)),(h i (by omega)).1,List.getElem?_append_right h1,List.getElem?_drop,show xs.length+(i-xs.length)=i from by omega]
 ·simp only [List.length_append,List.length_drop] at hi
  rw [World.frozen?_setCells];exact (h i (by omega)).2
 ·exact World.cell?_setCells_out g _ o w _ (fun _ _=>by simp;omega)
theorem run_copy_seg {P:Program} (w:World) (dT sT elem:TypeId) (hu:P.underlying dT=some (.slice elem)) (hsz:(P.info? elem).map (·.size)=some 1)
  (g off dLen dCap:Nat) (vs:Value) (rs xs:List Nat) (hg:Seg w g off rs) (hr:dLen=rs.length) (hx:Sl .u64 w vs xs) (hl:xs.length≤rs.length) :
  ∃ w',(∀ ty,(Builtin.copy_ #[dT,sT] ty #[.slice (some ⟨g,off,none⟩) dLen dCap,vs]).run P w=.ok (goInt xs.length) w')∧Hid (Seg w' g off (xs++rs.drop xs.length)∧Part g off xs.length w w'):=by
 obtain ⟨ad,cap,rfl,-,hc,-⟩:=hx
 subst hr
 rcases Nat.eq_zero_or_pos xs.length with h0 | h0
 ·have e:xs=[]:=List.length_eq_zero_iff.1 h0
  subst e
  exact ⟨w,fun ty=>run_copy_none w dT sT ty elem _ _ _ _ _ _ hu hsz (by simp),by simpa using hg,Part.refl _ _ _ _⟩
 ·obtain ⟨b,off',rfl,-⟩:=hc 0 h0
  refine ⟨_,fun ty=>?_,seg_copy hg xs hl⟩
  have hrun:=run_copy_cells (P:=P) w dT sT ty elem g off rs.length dCap ⟨b,off',none⟩ xs.length cap (xs.map fun (x:Nat)=>Value.int .u64 (x:Int)) hu hsz (by rw [List.length_map];exact (Nat.min_eq_left hl).symm)
   (fun j v hj=>by
    obtain ⟨h1,rfl⟩:=getD_map_u64 xs j v hj
    obtain ⟨b2,off2,e,h2⟩:=hc j h1
    simp only [Option.some.injEq,Addr.mk.injEq] at e
    obtain ⟨rfl,rfl,-⟩:=e
    rw [addr_add];exact h2)
   (fun j hj=>by rw [(hg j (by simp at hj;omega)).1];rfl) (fun j hj=>(hg j (by simp at hj;omega)).2) (fun v hv=>by
    simp only [List.mem_map] at hv
    obtain ⟨x,-,rfl⟩:=hv
    rfl)
  rw [List.length_map] at hrun
  exact hrun
end Go.Proofs.YtlckjpelcmjimaaGreatDoor
namespace Go.Proofs
open Go.Shelf Go.RowKit
def Tryz.lays145_ren : Go.Shelf.Ren := ⟨fun | 145 => 189 | 217 => 225 | 219 => 217 | 220 => 202 | 224 => 227 | 225 => 226 | 266 => 232 | 267 => 228 | 314 => 233 | n => n, fun | 3 => 3 | 4 => 4 | 5 => 5 | 9 => 9 | 46 => 93 | 51 => 243 | 59 => 239 | 146 => 270 | n => n, fun | 1 => 4 | n => n⟩
theorem Tryz.lays145 : Go.Proofs.Lays.n145 Tryz.prog Tryz.lays145_ren := {
  mixed := by kernel_rfl
  f145 := Tryz.func189.trans (congrArg some (by kernel_rfl))
  f217 := Tryz.func225.trans (congrArg some (by kernel_rfl))
  f219 := Tryz.func217.trans (congrArg some (by kernel_rfl))
  f220 := Tryz.func202.trans (congrArg some (by kernel_rfl))
  f224 := Tryz.func227.trans (congrArg some (by kernel_rfl))
  f225 := Tryz.func226.trans (congrArg some (by kernel_rfl))
  f266 := Tryz.func232.trans (congrArg some (by kernel_rfl))
  f267 := Tryz.func228.trans (congrArg some (by kernel_rfl))
  f314 := Tryz.func233.trans (congrArg some (by kernel_rfl))
  t3 := Tryz.underlying3
  a3 := Tryz.isAgg3
  z3 := Tryz.sizeOf3
  v3 := Tryz.zeroValue3
  t4 := Tryz.underlying4
  a4 := Tryz.isAgg4
  z4 := Tryz.sizeOf4
  v4 := Tryz.zeroValue4
  t5 := Tryz.underlying5
  a5 := Tryz.isAgg5
  z5 := Tryz.sizeOf5
  v5 := Tryz.zeroValue5
  t9 := Tryz.underlying9
  a9 := Tryz.isAgg9
  z9 := Tryz.sizeOf9
  v9 := Tryz.zeroValue9
  t46 := Tryz.underlying93
  a46 := Tryz.isAgg93
  z46 := Tryz.sizeOf93
  v46 := Tryz.zeroValue93
  t51 := Tryz.underlying243
  a51 := Tryz.isAgg243
  z51 := Tryz.sizeOf243
  v51 := Tryz.zeroValue243
  t59 := Tryz.underlying239
  a59 := Tryz.isAgg239
  z59 := Tryz.sizeOf239
  v59 := Tryz.zeroValue239
  t146 := Tryz.underlying270
  a146 := Tryz.isAgg270
  z146 := Tryz.sizeOf270
  v146 := Tryz.zeroValue270
  g1 := by kernel_rfl }
theorem index_behind (d:UInt8):∀ (pre post:List UInt8),d ∉ pre→Lib.index (pre++d::post) [d]=(pre.length:Int)
 | [],post,_=>by simp [Lib.index,List.isPrefixOf]
 | b::l,post,h=>by
  have hb:¬ d=b:=fun e=>h (by simp [e])
  have ih:=index_behind d l post (fun e=>h (by simp [e]))
  rw [List.cons_append,Lib.index,ih]
  have h1:([d].isPrefixOf (b::(l++d::post)))=false:=by simp [List.isPrefixOf,hb]
  rw [h1]
  have h2:(((l.length:Nat):Int)==-1)=false:=by rw [beq_eq_false_iff_ne];omega
  simp [h2]
theorem cut_behind (d:UInt8) (pre post:List UInt8) (h:d ∉ pre):Lib.cut (pre++d::post) [d]=(pre,post,true):=by
 unfold Lib.cut
 rw [index_behind d pre post h,if_pos (by omega),Int.toNat_natCast]
 simp
theorem Tryz.strings_Cut (t:ByteArray) (d:UInt8) (pre post:List UInt8) (m:Int) (w:World) (ht:t.data.toList=pre++d::post) (hd:d ∉ pre) (hs:t.size<4294967281) (hm:w.cell? ⟨4,0,none⟩=some (.int .i64 m)) :
  Calls Tryz.prog 189 #[.string t,.string ⟨#[d]⟩] w fun e w'=>e=.returned (.tuple #[.string ⟨pre.toArray⟩,.string ⟨post.toArray⟩,.bool true])∧∃ n,w'=w.drewN n:=by
 have h:=Any.strings_Cut Tryz.lays145 t ⟨#[d]⟩ m w hs hm
 rw [ht,show (⟨#[d]⟩:ByteArray).data.toList=[d] from rfl,cut_behind d pre post hd] at h
 exact h
end Go.Proofs
