/- A text is cut into its parts, as the Go  -/
import Derived.Deep.RegionHeld
import Derived.Test.YtlckjpelcmjimaaGreatDoorKPPh
namespace Go.Proofs.YtlckjpelcmjimaaGreatDoor
open Go.RowKit
set_option maxHeartbeats 8000000
set_option maxRecDepth 100000
theorem extract_mid (t:ByteArray) (xs ds es:List UInt8) (h:t.data.toList=xs++ds++es):(t.extract xs.length (xs.length+ds.length)).data.toList=ds:=by
 rw [ByteArray.data_extract,Array.toList_extract,List.extract_eq_take_drop,h,List.append_assoc,List.drop_left,Nat.add_sub_cancel_left,List.take_left]
theorem prefix_minus (ds:List UInt8) (h:∀ d,ds.head? = some d→d≠45):Lib.hasPrefix ds [45]=false:=by
 cases ds with
 | nil=>rfl
 | cons d ds =>
  have:=h d rfl
  simp [Lib.hasPrefix,List.isPrefixOf]
  exact fun e=>this e.symm
theorem prefix_yes (ds:List UInt8):Lib.hasPrefix (45::ds) [45]=true:=by simp [Lib.hasPrefix,List.isPrefixOf]
theorem digit_head {ds es:List UInt8} (h:Digits ds) (h0:0<ds.length):∀ d,(ds++es).head? = some d→d≠45:=fun d hd=>by
 cases ds with
 | nil=>simp at h0
 | cons x xs =>
  simp at hd
  subst hd
  have:=(h x (by simp)).1
  intro e
  rw [e] at this
  exact absurd this (by decide)
theorem cut_whole (t:ByteArray) (ds:List UInt8) (w:World) (ht:t.data.toList=[]++ds) (hd:Digits ds) (h0:0<ds.length) (hl:ds.length<1000) :
  Calls Tryz.prog 203 #[.string t] w fun e w'=>∃ tw:ByteArray,e=.returned (.tuple #[.agg #[.bool false,.string tw,.int .u8 0,.string ⟨#[]⟩,.bool false],.int .i64 (-1)])∧tw.data.toList=ds∧But [] w w':=by
 have htA:t.data.toList=[]++ds++[]:=by rw [List.append_nil];exact ht
 have HP:Hid (∀ W,Calls Tryz.prog 218 #[.string t,.string ⟨#[45]⟩] W fun e w'=>e=.returned (.bool false)∧w'=W):=fun W=>by
  have h:=Tryz.strings_HasPrefix t ⟨#[45]⟩ W
  rw [htA,show (⟨#[45]⟩:ByteArray).data.toList=[45] from rfl,show []++ds++[]=ds++[] from rfl,prefix_minus _ (digit_head (es:=[]) hd h0)] at h
  exact h
 have hszA:t.size=0+ds.length+([]:List UInt8).length:=by
  have:=congrArg List.length htA
  simp only [List.length_append,List.length_nil] at this ⊢
  rw [← this]
  simp
 obtain ⟨m,hm⟩:∃ m,m=0+ds.length:=⟨_,rfl⟩
 have DE:Hid (∀ W,Calls Tryz.prog 219 #[.string t,.int .i64 0] W fun e w'=>e=.returned (.int .i64 (m:Int))∧w'=W):=fun W=>digitsEnd_any t _ ds [] 0 W htA (by simp) (by simp) hd (by simp) (by simp;omega) _ (by show _=_;rw [hm])
 have hex:(t.extract 0 m).data.toList=ds:=by
  have:=extract_mid t [] ds [] htA
  rw [hm]
  exact this
 have hsz:t.size=m:=by rw [hszA,hm];rfl
 have l3:(t.size:Int)≤(m:Int):=by omega
 have l4:decide ((m:Int)<(t.size:Int))=false:=decide_eq_false (by omega)
 have n1:((m:Int)==0)=false:=beq_eq_false_iff_ne.2 (by omega)
 have hm0:0≤(m:Int):=by omega
 have hmt:(m:Int)≤(t.size:Int):=by omega
 have hm9:m<2000:=by omega
 have HEX:=af hex
 clear hex ht htA hd h0 hl hszA hm hsz
 go_enter Tryz.func203,Tryz.ntmps203
 go_wp2_with fail
 refine (ae HP _).mono ?_
 rintro e w1 ⟨rfl,hw⟩
 obtain rfl:=hw.symm
 clear hw
 go_wp2_with fail
 refine (ae DE _).mono ?_
 rintro e w1 ⟨rfl,hw⟩
 obtain rfl:=hw.symm
 clear hw
 go_wp2
 exact bodyPost_ret (v:=.tuple #[.agg #[.bool false,.string (t.extract 0 m),.int .u8 0,.string (⟨#[]⟩),.bool false],.int .i64 (-1)]) (by simp [results,Tryz.results203,go_sem]) rfl ⟨t.extract 0 m,rfl,ae HEX,((But.refl _ _).alloc _).alloc _⟩
theorem cut_neg_whole (t:ByteArray) (ds:List UInt8) (w:World) (ht:t.data.toList=[45]++ds) (hd:Digits ds) (h0:0<ds.length) (hl:ds.length<1000) :
  Calls Tryz.prog 203 #[.string t] w fun e w'=>∃ tw:ByteArray,e=.returned (.tuple #[.agg #[.bool true,.string tw,.int .u8 0,.string ⟨#[]⟩,.bool false],.int .i64 (-1)])∧tw.data.toList=ds∧But [] w w':=by
 have htA:t.data.toList=[45]++ds++[]:=by rw [List.append_nil];exact ht
 have HP:Hid (∀ W,Calls Tryz.prog 218 #[.string t,.string ⟨#[45]⟩] W fun e w'=>e=.returned (.bool true)∧w'=W):=fun W=>by
  have h:=Tryz.strings_HasPrefix t ⟨#[45]⟩ W
  rw [htA,show (⟨#[45]⟩:ByteArray).data.toList=[45] from rfl,show [45]++ds++[]=45::(ds++[]) from rfl,prefix_yes] at h
  exact h
 have hszA:t.size=1+ds.length+([]:List UInt8).length:=by
  have:=congrArg List.length htA
  simp only [List.length_append,List.length_cons,List.length_nil] at this ⊢
  rw [← this]
  simp
 obtain ⟨m,hm⟩:∃ m,m=1+ds.length:=⟨_,rfl⟩
 have DE:Hid (∀ W,Calls Tryz.prog 219 #[.string t,.int .i64 1] W fun e w'=>e=.returned (.int .i64 (m:Int))∧w'=W):=fun W=>digitsEnd_any t _ ds [] 1 W htA (by simp) (by simp) hd (by simp) (by simp;omega) _ (by show _=_;rw [hm])
 have hex:(t.extract 1 m).data.toList=ds:=by
  have:=extract_mid t [45] ds [] htA
  rw [hm]
  exact this
 have hsz:t.size=m:=by rw [hszA,hm];rfl
 have l3:(t.size:Int)≤(m:Int):=by omega
 have l4:decide ((m:Int)<(t.size:Int))=false:=decide_eq_false (by omega)
 have n1:((m:Int)==1)=false:=beq_eq_false_iff_ne.2 (by omega)
 have hm0:1≤(m:Int):=by omega
 have hmt:(m:Int)≤(t.size:Int):=by omega
 have hm9:m<2000:=by omega
 have HEX:=af hex
 clear hex ht htA hd h0 hl hszA hm hsz
 go_enter Tryz.func203,Tryz.ntmps203
 go_wp2_with fail
 refine (ae HP _).mono ?_
 rintro e w1 ⟨rfl,hw⟩
 obtain rfl:=hw.symm
 clear hw
 go_wp2_with fail
 refine (ae DE _).mono ?_
 rintro e w1 ⟨rfl,hw⟩
 obtain rfl:=hw.symm
 clear hw
 go_wp2
 exact bodyPost_ret (v:=.tuple #[.agg #[.bool true,.string (t.extract 1 m),.int .u8 0,.string (⟨#[]⟩),.bool false],.int .i64 (-1)]) (by simp [results,Tryz.results203,go_sem]) rfl ⟨t.extract 1 m,rfl,ae HEX,((But.refl _ _).alloc _).alloc _⟩
end Go.Proofs.YtlckjpelcmjimaaGreatDoor
