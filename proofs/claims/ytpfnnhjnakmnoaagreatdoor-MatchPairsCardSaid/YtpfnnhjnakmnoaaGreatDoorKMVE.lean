/- What has grown, brought back, is what pa -/
import Derived.Shelf.Strings.Prefix
import Derived.Test.YtpfnnhjnakmnoaaGreatDoorProg
import Derived.Shelf.Strings.Cut
import Derived.Deep.RegionHeld
import Derived.Test.YtpfnnhjnakmnoaaGreatDoorKMVR
namespace Go.Proofs.YtpfnnhjnakmnoaaGreatDoor
theorem pow_mul (x y:Rat):∀ n:Nat,(x*y)^n=x^n*y^n
 | 0=>by rw [Rat.pow_zero,Rat.pow_zero,Rat.pow_zero];grind
 | n+1=>by rw [Rat.pow_succ,Rat.pow_succ,Rat.pow_succ,pow_mul x y n];grind
end Go.Proofs.YtpfnnhjnakmnoaaGreatDoor

namespace Go.Proofs.YtpfnnhjnakmnoaaGreatDoor
structure PairR (D g d:Rat) (a t b:Nat) (x y:Rat):Prop where
 lt1:a<t
 lt2:t<b
 nn:0≤D
 inv:g*d=1
 pos:0<d
 ex:∃ pa pb:Rat,pa*(((b-a:Nat):Int):Rat)=(((b-t:Nat):Int):Rat)∧pb*(((b-a:Nat):Int):Rat)=(((t-a:Nat):Int):Rat)∧x=D*pa*d^(t-a)∧y=D*pb*g^(b-t)
end Go.Proofs.YtpfnnhjnakmnoaaGreatDoor

namespace Go.Proofs
open Go.Shelf
def Tryz.lays99_ren : Go.Shelf.Ren := ⟨fun | 99 => 216 | 206 => 231 | n => n, fun | 3 => 3 | 4 => 4 | 9 => 9 | n => n, fun | n => n⟩
theorem Tryz.lays99 : Go.Proofs.Lays.n99 Tryz.prog Tryz.lays99_ren := {
  mixed := by kernel_rfl
  f99 := Tryz.func216.trans (congrArg some (by kernel_rfl))
  f206 := Tryz.func231.trans (congrArg some (by kernel_rfl))
  t3 := Tryz.underlying3
  a3 := Tryz.isAgg3
  z3 := Tryz.sizeOf3
  v3 := Tryz.zeroValue3
  t4 := Tryz.underlying4
  a4 := Tryz.isAgg4
  z4 := Tryz.sizeOf4
  v4 := Tryz.zeroValue4
  t9 := Tryz.underlying9
  a9 := Tryz.isAgg9
  z9 := Tryz.sizeOf9
  v9 := Tryz.zeroValue9 }
theorem Tryz.strings_HasPrefix (s p:ByteArray) (w:World) :
  Calls Tryz.prog 216 #[.string s,.string p] w fun e w'=>e=.returned (.bool (Lib.hasPrefix s.data.toList p.data.toList))∧w'=w:=Any.strings_HasPrefix Tryz.lays99 s p w
end Go.Proofs

namespace Go.Proofs
open Go.Shelf Go.RowKit
def Tryz.lays145_ren : Go.Shelf.Ren := ⟨fun | 145 => 158 | 217 => 227 | 219 => 215 | 220 => 192 | 224 => 229 | 225 => 228 | 266 => 232 | 267 => 230 | 314 => 233 | n => n, fun | 3 => 3 | 4 => 4 | 5 => 5 | 9 => 9 | 46 => 91 | 51 => 190 | 59 => 206 | 146 => 261 | n => n, fun | 1 => 4 | n => n⟩
theorem Tryz.lays145 : Go.Proofs.Lays.n145 Tryz.prog Tryz.lays145_ren := {
  mixed := by kernel_rfl
  f145 := Tryz.func158.trans (congrArg some (by kernel_rfl))
  f217 := Tryz.func227.trans (congrArg some (by kernel_rfl))
  f219 := Tryz.func215.trans (congrArg some (by kernel_rfl))
  f220 := Tryz.func192.trans (congrArg some (by kernel_rfl))
  f224 := Tryz.func229.trans (congrArg some (by kernel_rfl))
  f225 := Tryz.func228.trans (congrArg some (by kernel_rfl))
  f266 := Tryz.func232.trans (congrArg some (by kernel_rfl))
  f267 := Tryz.func230.trans (congrArg some (by kernel_rfl))
  f314 := Tryz.func233.trans (congrArg some (by kernel_rfl))
  t3 := Tryz.underlying3
  a3 := Tryz.isAgg3
  z3 := Tryz.sizeOf3
  v3 := Tryz.zeroValue3
  t4 := Tryz.underlying4
  a4 := Tryz.isAgg4
  z4 := Tryz.sizeOf4
  v4 := Tryz.zeroValue4
  t5 := Tryz.underlying5
  a5 := Tryz.isAgg5
  z5 := Tryz.sizeOf5
  v5 := Tryz.zeroValue5
  t9 := Tryz.underlying9
  a9 := Tryz.isAgg9
  z9 := Tryz.sizeOf9
  v9 := Tryz.zeroValue9
  t46 := Tryz.underlying91
  a46 := Tryz.isAgg91
  z46 := Tryz.sizeOf91
  v46 := Tryz.zeroValue91
  t51 := Tryz.underlying190
  a51 := Tryz.isAgg190
  z51 := Tryz.sizeOf190
  v51 := Tryz.zeroValue190
  t59 := Tryz.underlying206
  a59 := Tryz.isAgg206
  z59 := Tryz.sizeOf206
  v59 := Tryz.zeroValue206
  t146 := Tryz.underlying261
  a146 := Tryz.isAgg261
  z146 := Tryz.sizeOf261
  v146 := Tryz.zeroValue261
  g1 := by kernel_rfl }
theorem index_behind (d:UInt8):∀ (pre post:List UInt8),d ∉ pre→Lib.index (pre++d::post) [d]=(pre.length:Int)
 | [],post,_=>by simp [Lib.index,List.isPrefixOf]
 | b::l,post,h=>by
  have hb:¬ d=b:=fun e=>h (by simp [e])
  have ih:=index_behind d l post (fun e=>h (by simp [e]))
  rw [List.cons_append,Lib.index,ih]
  have h1:([d].isPrefixOf (b::(l++d::post)))=false:=by simp [List.isPrefixOf,hb]
  rw [h1]
  have h2:(((l.length:Nat):Int)==-1)=false:=by rw [beq_eq_false_iff_ne];omega
  simp [h2]
theorem index_none (d:UInt8):∀ (l:List UInt8),d ∉ l→Lib.index l [d]=-1
 | [],_=>by simp [Lib.index]
 | b::l,h=>by
  have hb:¬ d=b:=fun e=>h (by simp [e])
  have ih:=index_none d l (fun e=>h (by simp [e]))
  rw [Lib.index,ih]
  have h1:([d].isPrefixOf (b::l))=false:=by simp [List.isPrefixOf,hb]
  rw [h1]
  simp
theorem cut_none (d:UInt8) (l:List UInt8) (h:d ∉ l):Lib.cut l [d]=(l,[],false):=by
 unfold Lib.cut
 rw [index_none d l h]
 simp
theorem cut_behind (d:UInt8) (pre post:List UInt8) (h:d ∉ pre):Lib.cut (pre++d::post) [d]=(pre,post,true):=by
 unfold Lib.cut
 rw [index_behind d pre post h,if_pos (by omega),Int.toNat_natCast]
 simp
theorem Tryz.strings_Cut (t:ByteArray) (d:UInt8) (pre post:List UInt8) (m:Int) (w:World) (ht:t.data.toList=pre++d::post) (hd:d ∉ pre) (hs:t.size<4294967281) (hm:w.cell? ⟨4,0,none⟩=some (.int .i64 m)) :
  Calls Tryz.prog 158 #[.string t,.string ⟨#[d]⟩] w fun e w'=>e=.returned (.tuple #[.string ⟨pre.toArray⟩,.string ⟨post.toArray⟩,.bool true])∧∃ n,w'=w.drewN n:=by
 have h:=Any.strings_Cut Tryz.lays145 t ⟨#[d]⟩ m w hs hm
 rw [ht,show (⟨#[d]⟩:ByteArray).data.toList=[d] from rfl,cut_behind d pre post hd] at h
 exact h
end Go.Proofs

namespace Go.Proofs.YtpfnnhjnakmnoaaGreatDoor
open Go.RowKit
theorem cmpZ_tells (x y:Rat) (r:Int) (hr:r=cmpZ (x.num*(y.den:Int)) (y.num*(x.den:Int))):(r<0↔x<y)∧(0<r↔y<x)∧(r=0↔x=y):=by
 have h1:x<y↔x.num*(y.den:Int)<y.num*(x.den:Int):=Rat.lt_iff x y
 have h2:y<x↔y.num*(x.den:Int)<x.num*(y.den:Int):=Rat.lt_iff y x
 have h3:x=y↔x.num*(y.den:Int)=y.num*(x.den:Int):=by
  constructor
  ·intro h;rw [h]
  ·intro h
   exact Rat.le_antisymm ((Rat.le_iff _ _).2 (by omega)) ((Rat.le_iff _ _).2 (by omega))
 rw [h1,h2,h3,hr]
 unfold cmpZ
 split
 ·omega
 ·split <;> omega
end Go.Proofs.YtpfnnhjnakmnoaaGreatDoor

namespace Go.Proofs.YtpfnnhjnakmnoaaGreatDoor
open Go.RowKit
set_option maxHeartbeats 8000000
theorem matchBelow_any (v:Value) (f:Rat) (w:World) (hf:FracAt w v f) :
  Calls Tryz.prog 45 #[v] w fun e w'=>e=.returned (.bool (decide (f<0)))∧But [] w w':=by
 have hs:decide (f.num.sign<0)=decide (f<0):=by
  have h1:f.num.sign<0↔f<0:=by
   rw [Int.sign_neg_iff]
   have h2:0≤f.num↔0≤f:=Rat.num_nonneg
   constructor
   ·intro h
    exact Rat.not_le.1 (fun h3=>by have:=h2.2 h3;omega)
   ·intro h
    exact Int.not_le.1 (fun h3=>Rat.not_le.2 h (h2.1 h3))
  exact decide_eq_decide.2 h1
 have SG:=hide (fun W (h:FracAt W v f)=>fracSign_any v f W h)
 have HF:=hide hf
 obtain ⟨x1,y1,p1,rfl,-⟩:=hf.agg
 clear hf
 have bA:But [] w (w.alloc (.cells #[.bool (decide (f.num<0)),.int .u64 x1,.int .u64 y1,.pointer p1] 27)):=(But.refl _ _).alloc _
 generalize decide (f.num<0)=s1 at *
 have B1:=hide bA
 clear bA
 rw [← hs]
 generalize f.num.sign=z at *
 clear hs
 go_enter Tryz.func45,Tryz.ntmps45
 go_wp2_with fail
 refine (unhide SG _ ((unhide HF).but (unhide B1))).mono ?_
 rintro e w1 ⟨rfl,hb⟩
 have B2:=hide ((unhide B1).trans' hb)
 clear hb B1
 go_wp2
 exact bodyPost_ret (v:=.bool (decide (z<0))) (by simp [results,Tryz.results45,go_sem]) rfl ⟨rfl,unhide B2⟩
theorem matchAbove_any (v:Value) (f:Rat) (w:World) (hf:FracAt w v f) (lf:Len f 10000) :
  Calls Tryz.prog 44 #[v] w fun e w'=>e=.returned (.bool (decide (-1<f)))∧But [] w w':=by
 obtain ⟨s2,x2,FW,CW⟩:=whole_is (-1) (by omega) (by omega)
 obtain ⟨r,hr⟩:∃ r,r=cmpZ (f.num*((((-1:Int):Rat)).den:Int)) ((((-1:Int):Rat)).num*(f.den:Int)):=⟨_,rfl⟩
 have ht:=(cmpZ_tells f (((-1:Int):Rat)) r hr).2.1
 have hd:decide (-1<f)=decide (r > 0):=decide_eq_decide.2 ht.symm
 have CM:=hide (fun W (h:FracAt W v f)=>fracCmp_any v _ f _ W h (FW W) (lf.mono (by omega)) (len_int (-1) (by decide) |>.mono (by omega)) r hr)
 have HF:=hide hf
 have CWH:=hide CW
 rw [hd]
 obtain ⟨x1,y1,p1,rfl,-⟩:=hf.agg
 generalize decide (f.num<0)=s1 at *
 clear hf lf hr ht hd FW CW
 obtain ⟨W1,hW1⟩:∃ W1,W1=w.alloc (.cells #[.bool s1,.int .u64 x1,.int .u64 y1,.pointer p1] 27):=⟨_,rfl⟩
 have b1:But [] w W1:=by rw [hW1];exact (But.refl _ _).alloc _
 have c1:P4o W1 w.heap.size 0 s1 x1 y1 p1:=by rw [hW1];exact ⟨by simp,by simp,by simp,by simp⟩
 have B1:=hide b1
 have C1:=hide c1
 have HW1:=hide hW1
 clear b1 c1 hW1
 go_enter Tryz.func44,Tryz.ntmps44
 go_wp2_with fail
 rw [← unhide HW1]
 refine above_region1 1 _ _ W1 w.heap.size s1 x1 y1 p1 s2 x2 0 none r (decide (r > 0)) (by simp) (by simp [Act.eval]) rfl (unhide C1) (unhide CWH) (fun W hb=>unhide CM W (((unhide HF).but (unhide B1)).but hb)) ?_
 intro w1 hP
 simp only [putted,List.foldl_cons,List.foldl_nil,Act.put,List.setIfInBounds_toArray,List.set_cons_zero,List.set_cons_succ]
 have BF:=hide ((unhide B1).trans' hP.mem)
 clear hP
 go_wp2
 exact bodyPost_ret (v:=.bool (decide (r > 0))) (by simp [results,Tryz.results44,go_sem]) rfl ⟨rfl,unhide BF⟩
end Go.Proofs.YtpfnnhjnakmnoaaGreatDoor
