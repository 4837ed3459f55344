/- Small fractions lie anywhere; two new places. -/
import Derived.Shelf.Strings.Prefix
import Derived.Test.YtloojmaamaambaaGreatDoorProg
import Derived.Shelf.Strings.Cut
import Derived.Deep.RegionHeld
import Derived.Test.YtloojmaamaambaaGreatDoorKBF10
import Derived.Test.YtloojmaamaambaaGreatDoorKBF13
namespace Go.Proofs.YtloojmaamaambaaGreatDoor
open Go.RowKit

/-- a fraction of words lies nowhere -/
theorem frac_anywhere {W : World} {v : Value} {f : Rat} (h : FracAt W v f) (hp : f.num.natAbs < 18446744073709551616) (hq : f.den < 18446744073709551616) (W' : World) : FracAt W' v f:=by
 rcases h with h | ⟨h,-⟩
 ·exact .inl h
 ·omega
end Go.Proofs.YtloojmaamaambaaGreatDoor

namespace Go.Proofs
open Go.Shelf
def Tryz.lays99_ren : Go.Shelf.Ren := ⟨fun | 99 => 218 | 206 => 229 | n => n, fun | 3 => 3 | 4 => 4 | 9 => 9 | n => n, fun | n => n⟩
theorem Tryz.lays99 : Go.Proofs.Lays.n99 Tryz.prog Tryz.lays99_ren := {
  mixed := by kernel_rfl
  f99 := Tryz.func218.trans (congrArg some (by kernel_rfl))
  f206 := Tryz.func229.trans (congrArg some (by kernel_rfl))
  t3 := Tryz.underlying3
  a3 := Tryz.isAgg3
  z3 := Tryz.sizeOf3
  v3 := Tryz.zeroValue3
  t4 := Tryz.underlying4
  a4 := Tryz.isAgg4
  z4 := Tryz.sizeOf4
  v4 := Tryz.zeroValue4
  t9 := Tryz.underlying9
  a9 := Tryz.isAgg9
  z9 := Tryz.sizeOf9
  v9 := Tryz.zeroValue9 }
theorem Tryz.strings_HasPrefix (s p : ByteArray) (w : World) :
  Calls Tryz.prog 218 #[.string s,.string p] w fun e w' => e = .returned (.bool (Lib.hasPrefix s.data.toList p.data.toList))∧w' = w:=Any.strings_HasPrefix Tryz.lays99 s p w
end Go.Proofs

namespace Go.Proofs
open Go.Shelf Go.RowKit
def Tryz.lays145_ren : Go.Shelf.Ren := ⟨fun | 145 => 189 | 217 => 225 | 219 => 217 | 220 => 202 | 224 => 227 | 225 => 226 | 266 => 232 | 267 => 228 | 314 => 233 | n => n, fun | 3 => 3 | 4 => 4 | 5 => 5 | 9 => 9 | 46 => 93 | 51 => 243 | 59 => 239 | 146 => 270 | n => n, fun | 1 => 4 | n => n⟩
theorem Tryz.lays145 : Go.Proofs.Lays.n145 Tryz.prog Tryz.lays145_ren := {
  mixed := by kernel_rfl
  f145 := Tryz.func189.trans (congrArg some (by kernel_rfl))
  f217 := Tryz.func225.trans (congrArg some (by kernel_rfl))
  f219 := Tryz.func217.trans (congrArg some (by kernel_rfl))
  f220 := Tryz.func202.trans (congrArg some (by kernel_rfl))
  f224 := Tryz.func227.trans (congrArg some (by kernel_rfl))
  f225 := Tryz.func226.trans (congrArg some (by kernel_rfl))
  f266 := Tryz.func232.trans (congrArg some (by kernel_rfl))
  f267 := Tryz.func228.trans (congrArg some (by kernel_rfl))
  f314 := Tryz.func233.trans (congrArg some (by kernel_rfl))
  t3 := Tryz.underlying3
  a3 := Tryz.isAgg3
  z3 := Tryz.sizeOf3
  v3 := Tryz.zeroValue3
  t4 := Tryz.underlying4
  a4 := Tryz.isAgg4
  z4 := Tryz.sizeOf4
  v4 := Tryz.zeroValue4
  t5 := Tryz.underlying5
  a5 := Tryz.isAgg5
  z5 := Tryz.sizeOf5
  v5 := Tryz.zeroValue5
  t9 := Tryz.underlying9
  a9 := Tryz.isAgg9
  z9 := Tryz.sizeOf9
  v9 := Tryz.zeroValue9
  t46 := Tryz.underlying93
  a46 := Tryz.isAgg93
  z46 := Tryz.sizeOf93
  v46 := Tryz.zeroValue93
  t51 := Tryz.underlying243
  a51 := Tryz.isAgg243
  z51 := Tryz.sizeOf243
  v51 := Tryz.zeroValue243
  t59 := Tryz.underlying239
  a59 := Tryz.isAgg239
  z59 := Tryz.sizeOf239
  v59 := Tryz.zeroValue239
  t146 := Tryz.underlying270
  a146 := Tryz.isAgg270
  z146 := Tryz.sizeOf270
  v146 := Tryz.zeroValue270
  g1 := by kernel_rfl }
/-- the text behind the first sign of that kind -/
theorem index_behind (d : UInt8) : ∀ (pre post : List UInt8),d ∉ pre→Lib.index (pre ++ d :: post) [d] = (pre.length : Int)
 | [],post,_ => by simp [Lib.index,List.isPrefixOf]
 | b :: l,post,h => by
  have hb : ¬ d = b:=fun e => h (by simp [e])
  have ih:=index_behind d l post (fun e => h (by simp [e]))
  rw [List.cons_append,Lib.index,ih]
  have h1 : ([d].isPrefixOf (b :: (l ++ d :: post))) = false:=by simp [List.isPrefixOf,hb]
  rw [h1]
  have h2 : (((l.length : Nat) : Int) == -1) = false:=by rw [beq_eq_false_iff_ne]; omega
  simp [h2]
theorem cut_behind (d : UInt8) (pre post : List UInt8) (h : d ∉ pre) : Lib.cut (pre ++ d :: post) [d] = (pre,post,true):=by
 unfold Lib.cut
 rw [index_behind d pre post h,if_pos (by omega),Int.toNat_natCast]
 simp
theorem Tryz.strings_Cut (t : ByteArray) (d : UInt8) (pre post : List UInt8) (m : Int) (w : World) (ht : t.data.toList = pre ++ d :: post) (hd : d ∉ pre) (hs : t.size < 4294967281) (hm : w.cell? ⟨4,0,none⟩ = some (.int .i64 m)) :
  Calls Tryz.prog 189 #[.string t,.string ⟨#[d]⟩] w fun e w' => e = .returned (.tuple #[.string ⟨pre.toArray⟩,.string ⟨post.toArray⟩,.bool true])∧∃ n,w' = w.drewN n:=by
 have h:=Any.strings_Cut Tryz.lays145 t ⟨#[d]⟩ m w hs hm
 rw [ht,show (⟨#[d]⟩ : ByteArray).data.toList = [d] from rfl,cut_behind d pre post hd] at h
 exact h
end Go.Proofs

namespace Go.Proofs.YtloojmaamaambaaGreatDoor
open Go.RowKit

/-- lists of fractions, one behind the other -/
def ListsAt (w : World) (v : Value) (ls : List (List Rat)) : Prop:=∃ a cap,v = .slice a ls.length cap∧ls.length ≤ cap∧∀ i l,ls[i]? = some l→∃ b off u,a = some ⟨b,off,none⟩∧w.cell? ⟨b,off + i,none⟩ = some u∧FracsAt w u l
theorem ListsAt.but {w w' : World} {v : Value} {ls : List (List Rat)} (h : ListsAt w v ls) (hb : But [] w w') : ListsAt w' v ls:=by
 obtain ⟨a,cap,e,hc,h⟩:=h
 refine ⟨a,cap,e,hc,fun i l hl => ?_⟩
 obtain ⟨b,off,u,e1,h1,h2⟩:=h i l hl
 exact ⟨b,off,u,e1,hb.cell_some h1 (by simp),h2.but hb⟩
theorem ListsAt.get {w : World} {q : Option Addr} {n cap : Nat} {ls : List (List Rat)} (h : ListsAt w (.slice q n cap) ls) (i : Nat) (hi : i < ls.length) : ∃ b off u,q = some ⟨b,off,none⟩∧w.cell? ⟨b,off + i,none⟩ = some u∧FracsAt w u (ls[i]?.getD []):=by
 obtain ⟨a,cap',e,-,h⟩:=h
 simp only [Value.slice.injEq] at e
 obtain ⟨rfl,rfl,-⟩:=e
 obtain ⟨b,off,u,e1,h1,h2⟩:=h i ls[i] (List.getElem?_eq_getElem hi)
 exact ⟨b,off,u,e1,h1,by rw [List.getElem?_eq_getElem hi]; exact h2⟩

end Go.Proofs.YtloojmaamaambaaGreatDoor
