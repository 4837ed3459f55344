/- Whether a text begins so, off the shelf. -/
import Derived.Shelf.Strings.Prefix
import Derived.Test.YtjbboicccddhbaaGreatDoorProg
import Derived.Deep.RegionHeld
import Derived.Test.YtjbboicccddhbaaGreatDoorKPXO
namespace Go.Proofs
open Go.Shelf
def Tryz.lays99_ren : Go.Shelf.Ren := ⟨fun | 99 => 89 | 206 => 139 | n => n, fun | 3 => 3 | 4 => 4 | 9 => 9 | n => n, fun | n => n⟩
theorem Tryz.lays99 : Go.Proofs.Lays.n99 Tryz.prog Tryz.lays99_ren := {
  mixed := by kernel_rfl
  f99 := Tryz.func89.trans (congrArg some (by kernel_rfl))
  f206 := Tryz.func139.trans (congrArg some (by kernel_rfl))
  t3 := Tryz.underlying3
  a3 := Tryz.isAgg3
  z3 := Tryz.sizeOf3
  v3 := Tryz.zeroValue3
  t4 := Tryz.underlying4
  a4 := Tryz.isAgg4
  z4 := Tryz.sizeOf4
  v4 := Tryz.zeroValue4
  t9 := Tryz.underlying9
  a9 := Tryz.isAgg9
  z9 := Tryz.sizeOf9
  v9 := Tryz.zeroValue9 }
theorem Tryz.strings_HasPrefix (s p : ByteArray) (w : World) :
  Calls Tryz.prog 89 #[.string s,.string p] w fun e w' => e = .returned (.bool (Lib.hasPrefix s.data.toList p.data.toList))∧w' = w:=Any.strings_HasPrefix Tryz.lays99 s p w
end Go.Proofs

namespace Go.Proofs.YtjbboicccddhbaaGreatDoor
open Go.RowKit

theorem extract_mid (t : ByteArray) (xs ds es : List UInt8) (h : t.data.toList = xs ++ ds ++ es) : (t.extract xs.length (xs.length + ds.length)).data.toList = ds:=by
 rw [ByteArray.data_extract,Array.toList_extract,List.extract_eq_take_drop,h,List.append_assoc,List.drop_left,Nat.add_sub_cancel_left,List.take_left]
theorem prefix_minus (ds : List UInt8) (h : ∀ d,ds.head? = some d→d ≠ 45) : Lib.hasPrefix ds [45] = false:=by
 cases ds with
 | nil => rfl
 | cons d ds =>
  have:=h d rfl
  simp [Lib.hasPrefix,List.isPrefixOf]
  exact fun e => this e.symm
theorem prefix_yes (ds : List UInt8) : Lib.hasPrefix (45 :: ds) [45] = true:=by simp [Lib.hasPrefix,List.isPrefixOf]
theorem digit_head {ds es : List UInt8} (h : Digits ds) (h0 : 0 < ds.length) : ∀ d,(ds ++ es).head? = some d→d ≠ 45:=fun d hd => by
 cases ds with
 | nil => simp at h0
 | cons x xs =>
  simp at hd
  subst hd
  have:=(h x (by simp)).1
  intro e
  rw [e] at this
  exact absurd this (by decide)

set_option maxHeartbeats 8000000 in
set_option maxRecDepth 100000 in
theorem cut_whole (t : ByteArray) (ds : List UInt8) (w : World) (ht : t.data.toList = [] ++ ds) (hd : Digits ds) (h0 : 0 < ds.length) (hl : ds.length < 1000) :
  Calls Tryz.prog 41 #[.string t] w fun e w' => ∃ tw : ByteArray,e = .returned (.tuple #[.agg #[.bool false,.string tw,.int .u8 0,.string ⟨#[]⟩,.bool false],.int .i64 (-1)])∧tw.data.toList = ds∧But [] w w':=by
 have htA : t.data.toList = [] ++ ds ++ []:=by rw [List.append_nil]; exact ht
 have HP : Hid (∀ W,Calls Tryz.prog 89 #[.string t,.string ⟨#[45]⟩] W fun e w' => e = .returned (.bool false)∧w' = W):=fun W => by
  have h:=Tryz.strings_HasPrefix t ⟨#[45]⟩ W
  rw [htA,show (⟨#[45]⟩ : ByteArray).data.toList = [45] from rfl,show [] ++ ds ++ [] = ds ++ [] from rfl,prefix_minus _ (digit_head (es:=[]) hd h0)] at h
  exact h
 have hszA : t.size = 0 + ds.length + ([] : List UInt8).length:=by
  have:=congrArg List.length htA
  simp only [List.length_append,List.length_nil] at this ⊢
  rw [← this]
  simp
 obtain ⟨m,hm⟩ : ∃ m,m = 0 + ds.length:=⟨_,rfl⟩
 have DE : Hid (∀ W,Calls Tryz.prog 90 #[.string t,.int .i64 0] W fun e w' => e = .returned (.int .i64 (m : Int))∧w' = W):=fun W => digitsEnd_any t _ ds [] 0 W htA (by simp) (by simp) hd (by simp) (by simp; omega) _ (by show _ = _; rw [hm])
 have hex : (t.extract 0 m).data.toList = ds:=by
  have:=extract_mid t [] ds [] htA
  rw [hm]
  exact this
 have hsz : t.size = m:=by rw [hszA,hm]; rfl
 have l3 : (t.size : Int) ≤ (m : Int):=by omega
 have l4 : decide ((m : Int) < (t.size : Int)) = false:=decide_eq_false (by omega)
 have n1 : ((m : Int) == 0) = false:=beq_eq_false_iff_ne.2 (by omega)
 have hm0 : 0 ≤ (m : Int):=by omega
 have hmt : (m : Int) ≤ (t.size : Int):=by omega
 have hm9 : m < 2000:=by omega
 have HEX:=hide hex
 clear hex ht htA hd h0 hl hszA hm hsz
 go_enter Tryz.func41,Tryz.ntmps41
 go_wp2_with fail
 refine (unhide HP _).mono ?_
 rintro e w1 ⟨rfl,hw⟩
 obtain rfl:=hw.symm
 clear hw
 go_wp2_with fail
 refine (unhide DE _).mono ?_
 rintro e w1 ⟨rfl,hw⟩
 obtain rfl:=hw.symm
 clear hw
 go_wp2
 exact bodyPost_ret (v:=.tuple #[.agg #[.bool false,.string (t.extract 0 m),.int .u8 0,.string (⟨#[]⟩),.bool false],.int .i64 (-1)]) (by simp [results,Tryz.results41,go_sem]) rfl ⟨t.extract 0 m,rfl,unhide HEX,((But.refl _ _).alloc _).alloc _⟩

set_option maxHeartbeats 8000000 in
set_option maxRecDepth 100000 in
theorem cut_lineQ (t : ByteArray) (ds es : List UInt8) (w : World) (ht : t.data.toList = [] ++ ds ++ (47 :: es)) (hd : Digits ds) (h0 : 0 < ds.length) (hl : ds.length < 1000) (hde : Digits es) (he0 : 0 < es.length) (hel : es.length < 1000) :
  Calls Tryz.prog 41 #[.string t] w fun e w' => ∃ tw tb : ByteArray,e = .returned (.tuple #[.agg #[.bool false,.string tw,.int .u8 47,.string tb,.bool false],.int .i64 (-1)])∧tw.data.toList = ds∧tb.data.toList = es∧But [] w w':=by
 have htA:=ht
 have HP : Hid (∀ W,Calls Tryz.prog 89 #[.string t,.string ⟨#[45]⟩] W fun e w' => e = .returned (.bool false)∧w' = W):=fun W => by
  have h:=Tryz.strings_HasPrefix t ⟨#[45]⟩ W
  rw [htA,show (⟨#[45]⟩ : ByteArray).data.toList = [45] from rfl,show [] ++ ds ++ (47 :: es) = ds ++ (47 :: es) from rfl,prefix_minus _ (digit_head (es:=(47 :: es)) hd h0)] at h
  exact h
 have hszA : t.size = 0 + ds.length + ((47 :: es) : List UInt8).length:=by
  have:=congrArg List.length htA
  simp only [List.length_append,List.length_cons,List.length_nil] at this ⊢
  rw [← this]
  simp
 obtain ⟨m,hm⟩ : ∃ m,m = 0 + ds.length:=⟨_,rfl⟩
 have DE : Hid (∀ W,Calls Tryz.prog 90 #[.string t,.int .i64 0] W fun e w' => e = .returned (.int .i64 (m : Int))∧w' = W):=fun W => digitsEnd_any t _ ds (47 :: es) 0 W htA (by simp) (by simp) hd (fun e he => by simp at he; subst he; left; decide) (by simp; omega) _ (by show _ = _; rw [hm])
 have hex : (t.extract 0 m).data.toList = ds:=by
  have:=extract_mid t [] ds (47 :: es) htA
  rw [hm]
  exact this
 obtain ⟨p,hp⟩ : ∃ p,p = m + 1 + es.length:=⟨_,rfl⟩
 have htB : t.data.toList = ([] ++ ds ++ [47]) ++ es:=by rw [htA]; simp
 have hlB : ([] ++ ds ++ [47] : List UInt8).length = m + 1:=by simp; omega
 have DE2 : Hid (∀ W,Calls Tryz.prog 90 #[.string t,.int .i64 ((m : Int) + 1)] W fun e w' => e = .returned (.int .i64 (p : Int))∧w' = W):=fun W => digitsEnd_any t _ es [] (m + 1) W htB (by rw [← hlB,List.drop_left,List.append_nil]) (by rw [List.length_append,hlB]; omega) hde (by simp) (by rw [List.length_append,hlB]; omega) _ (by show _ = _; rw [hp])
 have hex2 : (t.extract (m + 1) p).data.toList = es:=by
  have:=extract_mid t ([] ++ ds ++ [47]) es [] (by rw [List.append_nil]; exact htB)
  rw [hlB,← hp] at this
  exact this
 have hb : ∀ W,(Instr.index 9 (.string t) (.int .i64 (m : Int))).run Tryz.prog W = .ok (.int .u8 47) W:=fun W => by
  have:=byte_at htA m (by simp; omega) 9 Tryz.underlying9 W
  have e : (([] ++ ds ++ (47 :: es) : List UInt8))[m]?.getD 0 = 47:=by
   rw [List.getElem?_append_right (by simp; omega),show m - ([] ++ ds : List UInt8).length = 0 from by simp; omega]
   rfl
  rw [e] at this
  exact this
 have hsz : t.size = p:=by rw [hszA,hp,hm]; simp; omega
 have l1 : (m : Int) < (t.size : Int):=by omega
 have l2 : decide ((m : Int) < (t.size : Int)) = true:=decide_eq_true l1
 have l3 : (t.size : Int) ≤ (p : Int):=by omega
 have l4 : decide ((p : Int) < (t.size : Int)) = false:=decide_eq_false (by omega)
 have n2 : ((p : Int) == (m : Int) + 1) = false:=beq_eq_false_iff_ne.2 (by omega)
 have b1 : (m : Int) + 1 ≤ (p : Int):=by omega
 have b2 : (p : Int) ≤ (t.size : Int):=by omega
 have HEX2:=hide hex2
 have wm : IntKind.i64.wrap ((m : Int) + 1) = (m : Int) + 1:=by rw [IntKind.wrap_i64]; omega
 have hsl : ∀ W,(Instr.slice 9 (.string t) (some (.int .i64 ((m : Int) + 1))) (some (.int .i64 (p : Int))) none).run Tryz.prog W = .ok (.string (t.extract (m + 1) p)) W:=fun W => by
  rw [run_slice_string W 9 t .i64 .i64 _ _ Tryz.underlying9 (by omega) (by omega) (by omega)]
  rfl
 have n1 : ((m : Int) == 0) = false:=beq_eq_false_iff_ne.2 (by omega)
 have hm0 : 0 ≤ (m : Int):=by omega
 have hmt : (m : Int) ≤ (t.size : Int):=by omega
 have hm9 : m < 2000:=by omega
 have hp9 : p < 4000:=by omega
 have HEX:=hide hex
 clear hex ht htA hd h0 hl hszA hm hsz htB hlB hex2 hp hde he0 hel
 go_enter Tryz.func41,Tryz.ntmps41
 go_wp2_with fail
 refine (unhide HP _).mono ?_
 rintro e w1 ⟨rfl,hw⟩
 obtain rfl:=hw.symm
 clear hw
 go_wp2_with fail
 refine (unhide DE _).mono ?_
 rintro e w1 ⟨rfl,hw⟩
 obtain rfl:=hw.symm
 clear hw
 go_wp2_with fail
 refine (unhide DE2 _).mono ?_
 rintro e w1 ⟨rfl,hw⟩
 obtain rfl:=hw.symm
 clear hw
 go_wp2
 go_region_held (fun _ => True) (first | trivial | go_keep) (fail)
 all_goals go_wp2
 all_goals exact bodyPost_ret (v:=.tuple #[.agg #[.bool false,.string (t.extract 0 m),.int .u8 47,.string (t.extract (m + 1) p),.bool false],.int .i64 (-1)]) (by simp [results,Tryz.results41,go_sem]) rfl ⟨t.extract 0 m,t.extract (m + 1) p,rfl,unhide HEX,unhide HEX2,(((But.refl _ _).alloc _).alloc _).drew⟩

set_option maxHeartbeats 8000000 in
set_option maxRecDepth 100000 in
theorem cut_neg_whole (t : ByteArray) (ds : List UInt8) (w : World) (ht : t.data.toList = [45] ++ ds) (hd : Digits ds) (h0 : 0 < ds.length) (hl : ds.length < 1000) :
  Calls Tryz.prog 41 #[.string t] w fun e w' => ∃ tw : ByteArray,e = .returned (.tuple #[.agg #[.bool true,.string tw,.int .u8 0,.string ⟨#[]⟩,.bool false],.int .i64 (-1)])∧tw.data.toList = ds∧But [] w w':=by
 have htA : t.data.toList = [45] ++ ds ++ []:=by rw [List.append_nil]; exact ht
 have HP : Hid (∀ W,Calls Tryz.prog 89 #[.string t,.string ⟨#[45]⟩] W fun e w' => e = .returned (.bool true)∧w' = W):=fun W => by
  have h:=Tryz.strings_HasPrefix t ⟨#[45]⟩ W
  rw [htA,show (⟨#[45]⟩ : ByteArray).data.toList = [45] from rfl,show [45] ++ ds ++ [] = 45 :: (ds ++ []) from rfl,prefix_yes] at h
  exact h
 have hszA : t.size = 1 + ds.length + ([] : List UInt8).length:=by
  have:=congrArg List.length htA
  simp only [List.length_append,List.length_cons,List.length_nil] at this ⊢
  rw [← this]
  simp
 obtain ⟨m,hm⟩ : ∃ m,m = 1 + ds.length:=⟨_,rfl⟩
 have DE : Hid (∀ W,Calls Tryz.prog 90 #[.string t,.int .i64 1] W fun e w' => e = .returned (.int .i64 (m : Int))∧w' = W):=fun W => digitsEnd_any t _ ds [] 1 W htA (by simp) (by simp) hd (by simp) (by simp; omega) _ (by show _ = _; rw [hm])
 have hex : (t.extract 1 m).data.toList = ds:=by
  have:=extract_mid t [45] ds [] htA
  rw [hm]
  exact this
 have hsz : t.size = m:=by rw [hszA,hm]; rfl
 have l3 : (t.size : Int) ≤ (m : Int):=by omega
 have l4 : decide ((m : Int) < (t.size : Int)) = false:=decide_eq_false (by omega)
 have n1 : ((m : Int) == 1) = false:=beq_eq_false_iff_ne.2 (by omega)
 have hm0 : 1 ≤ (m : Int):=by omega
 have hmt : (m : Int) ≤ (t.size : Int):=by omega
 have hm9 : m < 2000:=by omega
 have HEX:=hide hex
 clear hex ht htA hd h0 hl hszA hm hsz
 go_enter Tryz.func41,Tryz.ntmps41
 go_wp2_with fail
 refine (unhide HP _).mono ?_
 rintro e w1 ⟨rfl,hw⟩
 obtain rfl:=hw.symm
 clear hw
 go_wp2_with fail
 refine (unhide DE _).mono ?_
 rintro e w1 ⟨rfl,hw⟩
 obtain rfl:=hw.symm
 clear hw
 go_wp2
 exact bodyPost_ret (v:=.tuple #[.agg #[.bool true,.string (t.extract 1 m),.int .u8 0,.string (⟨#[]⟩),.bool false],.int .i64 (-1)]) (by simp [results,Tryz.results41,go_sem]) rfl ⟨t.extract 1 m,rfl,unhide HEX,((But.refl _ _).alloc _).alloc _⟩

set_option maxHeartbeats 8000000 in
set_option maxRecDepth 100000 in
theorem cut_neg_line (t : ByteArray) (ds es : List UInt8) (w : World) (ht : t.data.toList = [45] ++ ds ++ (47 :: es)) (hd : Digits ds) (h0 : 0 < ds.length) (hl : ds.length < 1000) (hde : Digits es) (he0 : 0 < es.length) (hel : es.length < 1000) :
  Calls Tryz.prog 41 #[.string t] w fun e w' => ∃ tw tb : ByteArray,e = .returned (.tuple #[.agg #[.bool true,.string tw,.int .u8 47,.string tb,.bool false],.int .i64 (-1)])∧tw.data.toList = ds∧tb.data.toList = es∧But [] w w':=by
 have htA:=ht
 have HP : Hid (∀ W,Calls Tryz.prog 89 #[.string t,.string ⟨#[45]⟩] W fun e w' => e = .returned (.bool true)∧w' = W):=fun W => by
  have h:=Tryz.strings_HasPrefix t ⟨#[45]⟩ W
  rw [htA,show (⟨#[45]⟩ : ByteArray).data.toList = [45] from rfl,show [45] ++ ds ++ (47 :: es) = 45 :: (ds ++ (47 :: es)) from rfl,prefix_yes] at h
  exact h
 have hszA : t.size = 1 + ds.length + ((47 :: es) : List UInt8).length:=by
  have:=congrArg List.length htA
  simp only [List.length_append,List.length_cons,List.length_nil] at this ⊢
  rw [← this]
  simp
 obtain ⟨m,hm⟩ : ∃ m,m = 1 + ds.length:=⟨_,rfl⟩
 have DE : Hid (∀ W,Calls Tryz.prog 90 #[.string t,.int .i64 1] W fun e w' => e = .returned (.int .i64 (m : Int))∧w' = W):=fun W => digitsEnd_any t _ ds (47 :: es) 1 W htA (by simp) (by simp) hd (fun e he => by simp at he; subst he; left; decide) (by simp; omega) _ (by show _ = _; rw [hm])
 have hex : (t.extract 1 m).data.toList = ds:=by
  have:=extract_mid t [45] ds (47 :: es) htA
  rw [hm]
  exact this
 obtain ⟨p,hp⟩ : ∃ p,p = m + 1 + es.length:=⟨_,rfl⟩
 have htB : t.data.toList = ([45] ++ ds ++ [47]) ++ es:=by rw [htA]; simp
 have hlB : ([45] ++ ds ++ [47] : List UInt8).length = m + 1:=by simp; omega
 have DE2 : Hid (∀ W,Calls Tryz.prog 90 #[.string t,.int .i64 ((m : Int) + 1)] W fun e w' => e = .returned (.int .i64 (p : Int))∧w' = W):=fun W => digitsEnd_any t _ es [] (m + 1) W htB (by rw [← hlB,List.drop_left,List.append_nil]) (by rw [List.length_append,hlB]; omega) hde (by simp) (by rw [List.length_append,hlB]; omega) _ (by show _ = _; rw [hp])
 have hex2 : (t.extract (m + 1) p).data.toList = es:=by
  have:=extract_mid t ([45] ++ ds ++ [47]) es [] (by rw [List.append_nil]; exact htB)
  rw [hlB,← hp] at this
  exact this
 have hb : ∀ W,(Instr.index 9 (.string t) (.int .i64 (m : Int))).run Tryz.prog W = .ok (.int .u8 47) W:=fun W => by
  have:=byte_at htA m (by simp; omega) 9 Tryz.underlying9 W
  have e : (([45] ++ ds ++ (47 :: es) : List UInt8))[m]?.getD 0 = 47:=by
   rw [List.getElem?_append_right (by simp; omega),show m - ([45] ++ ds : List UInt8).length = 0 from by simp; omega]
   rfl
  rw [e] at this
  exact this
 have hsz : t.size = p:=by rw [hszA,hp,hm]; simp; omega
 have l1 : (m : Int) < (t.size : Int):=by omega
 have l2 : decide ((m : Int) < (t.size : Int)) = true:=decide_eq_true l1
 have l3 : (t.size : Int) ≤ (p : Int):=by omega
 have l4 : decide ((p : Int) < (t.size : Int)) = false:=decide_eq_false (by omega)
 have n2 : ((p : Int) == (m : Int) + 1) = false:=beq_eq_false_iff_ne.2 (by omega)
 have b1 : (m : Int) + 1 ≤ (p : Int):=by omega
 have b2 : (p : Int) ≤ (t.size : Int):=by omega
 have HEX2:=hide hex2
 have wm : IntKind.i64.wrap ((m : Int) + 1) = (m : Int) + 1:=by rw [IntKind.wrap_i64]; omega
 have hsl : ∀ W,(Instr.slice 9 (.string t) (some (.int .i64 ((m : Int) + 1))) (some (.int .i64 (p : Int))) none).run Tryz.prog W = .ok (.string (t.extract (m + 1) p)) W:=fun W => by
  rw [run_slice_string W 9 t .i64 .i64 _ _ Tryz.underlying9 (by omega) (by omega) (by omega)]
  rfl
 have n1 : ((m : Int) == 1) = false:=beq_eq_false_iff_ne.2 (by omega)
 have hm0 : 1 ≤ (m : Int):=by omega
 have hmt : (m : Int) ≤ (t.size : Int):=by omega
 have hm9 : m < 2000:=by omega
 have hp9 : p < 4000:=by omega
 have HEX:=hide hex
 clear hex ht htA hd h0 hl hszA hm hsz htB hlB hex2 hp hde he0 hel
 go_enter Tryz.func41,Tryz.ntmps41
 go_wp2_with fail
 refine (unhide HP _).mono ?_
 rintro e w1 ⟨rfl,hw⟩
 obtain rfl:=hw.symm
 clear hw
 go_wp2_with fail
 refine (unhide DE _).mono ?_
 rintro e w1 ⟨rfl,hw⟩
 obtain rfl:=hw.symm
 clear hw
 go_wp2_with fail
 refine (unhide DE2 _).mono ?_
 rintro e w1 ⟨rfl,hw⟩
 obtain rfl:=hw.symm
 clear hw
 go_wp2
 go_region_held (fun _ => True) (first | trivial | go_keep) (fail)
 all_goals go_wp2
 all_goals exact bodyPost_ret (v:=.tuple #[.agg #[.bool true,.string (t.extract 1 m),.int .u8 47,.string (t.extract (m + 1) p),.bool false],.int .i64 (-1)]) (by simp [results,Tryz.results41,go_sem]) rfl ⟨t.extract 1 m,t.extract (m + 1) p,rfl,unhide HEX,unhide HEX2,(((But.refl _ _).alloc _).alloc _).drew⟩

end Go.Proofs.YtjbboicccddhbaaGreatDoor

namespace Go.Proofs.YtjbboicccddhbaaGreatDoor
open Go.RowKit

theorem fl_part (f : Rat) (n : Nat) (h0 : 0 ≤ f) (h1 : f ≤ 1) : ∃ z : Nat,fl (f * ((n : Int) : Rat)) = (z : Int)∧z ≤ n:=by
 have hn : (0 : Rat) ≤ ((n : Int) : Rat):=by rw [show (0 : Rat) = ((0 : Int) : Rat) from rfl,Rat.intCast_le_intCast]; omega
 generalize hg : f * ((n : Int) : Rat) = g
 have g0 : 0 ≤ g:=by rw [← hg]; exact Rat.mul_nonneg h0 hn
 have g1 : g ≤ ((n : Int) : Rat):=by
  have:=Rat.mul_le_mul_of_nonneg_right h1 hn
  rw [Rat.one_mul,hg] at this
  exact this
 have a0 : 0 ≤ g.num:=Rat.num_nonneg.2 g0
 have a1 : g.num ≤ (n : Int) * (g.den : Int):=by
  have:=(Rat.le_iff _ _).1 g1
  simpa using this
 have hd : (0 : Int) < (g.den : Int):=by have:=g.den_pos; omega
 have b0 : 0 ≤ g.num / (g.den : Int):=Int.ediv_nonneg a0 (by omega)
 have b1 : g.num / (g.den : Int) ≤ (n : Int):=Int.ediv_le_of_le_mul hd a1
 exact ⟨(g.num / (g.den : Int)).toNat,by unfold fl; omega,by omega⟩
/-- what a line bears of what is left of a claim -/
def brI (l : Ln) (sm lf bo : Int) : Int:=if l.kd = 1 then fl (l.f * ((lf : Int) : Rat)) else if l.kd = 2 then fl (((tkI l.li l.ti sm : Int) : Rat) / ((sm : Int) : Rat) * ((lf : Int) : Rat)) else if l.kd = 3 then min (abI l.fr l.li lf) (l.li * (l.ti + 1) - bo) else 0
theorem taken_part (t : Rat) (li ti sm : Int) (h1 : 1 ≤ sm) (h2 : 0 ≤ li) (h3 : 0 ≤ ti) (ht : t * ((sm : Int) : Rat) = ((tkI li ti sm : Int) : Rat)) : t = ((tkI li ti sm : Int) : Rat) / ((sm : Int) : Rat)∧0 ≤ t∧t ≤ 1:=by
 have hs : (0 : Rat) < ((sm : Int) : Rat):=by rw [show (0 : Rat) = ((0 : Int) : Rat) from rfl,Rat.intCast_lt_intCast]; omega
 have hk : 0 ≤ tkI li ti sm∧tkI li ti sm ≤ sm:=by
  unfold tkI
  have:=Int.mul_nonneg h2 h3
  split <;> omega
 have k0 : (0 : Rat) ≤ ((tkI li ti sm : Int) : Rat):=by rw [show (0 : Rat) = ((0 : Int) : Rat) from rfl,Rat.intCast_le_intCast]; exact hk.1
 have k1 : ((tkI li ti sm : Int) : Rat) ≤ ((sm : Int) : Rat):=by rw [Rat.intCast_le_intCast]; exact hk.2
 generalize ((tkI li ti sm : Int) : Rat) = k at *
 generalize ((sm : Int) : Rat) = s at *
 have e : t = k / s:=by grind
 refine ⟨e,?_,?_⟩
 ·refine Rat.not_lt.1 fun h => ?_
  have:=Rat.mul_lt_mul_of_pos_right h hs
  rw [ht,Rat.zero_mul] at this
  exact absurd this (Rat.not_lt.2 k0)
 ·refine Rat.not_lt.1 fun h => ?_
  have:=Rat.mul_lt_mul_of_pos_right h hs
  rw [ht,Rat.one_mul] at this
  exact absurd this (Rat.not_lt.2 k1)
theorem brI_range (l : Ln) (sm lf bo : Int) (hok : LnOk l) (h1 : 1 ≤ sm) (h2 : 0 ≤ lf) (h3 : l.kd = 3→0 ≤ bo∧bo ≤ l.li * (l.ti + 1)) : 0 ≤ brI l sm lf bo∧brI l sm lf bo ≤ lf∧(l.kd = 3→brI l sm lf bo ≤ l.li∧bo + brI l sm lf bo ≤ l.li * (l.ti + 1)):=by
 obtain ⟨⟨a1,a2⟩,-,⟨r1,r2,r3,r4⟩,k1,k2,k3,k4⟩:=hok
 obtain ⟨n,rfl⟩ : ∃ n : Nat,lf = (n : Int):=⟨lf.toNat,by omega⟩
 unfold brI
 by_cases e1 : l.kd = 1
 ·rw [if_pos e1]
  obtain ⟨z,hz,hzn⟩:=fl_part l.f n (k1 e1).1.1 (k1 e1).1.2
  rw [hz]
  exact ⟨by omega,by omega,fun h => by omega⟩
 ·rw [if_neg e1]
  by_cases e2 : l.kd = 2
  ·rw [if_pos e2]
   have hs : ((sm : Int) : Rat) ≠ 0:=by
    intro h
    have : sm = 0:=Rat.intCast_inj.1 (by rw [h]; rfl)
    omega
   obtain ⟨-,t0,t1⟩:=taken_part (((tkI l.li l.ti sm : Int) : Rat) / ((sm : Int) : Rat)) l.li l.ti sm h1 r2.1 r4.1 (by
    generalize ((tkI l.li l.ti sm : Int) : Rat) = k at *
    generalize ((sm : Int) : Rat) = s at *
    grind)
   obtain ⟨z,hz,hzn⟩:=fl_part _ n t0 t1
   rw [hz]
   exact ⟨by omega,by omega,fun h => by omega⟩
  ·rw [if_neg e2]
   by_cases e3 : l.kd = 3
   ·rw [if_pos e3]
    obtain ⟨b0,b1⟩:=h3 e3
    have:=(k3 e3).1
    generalize l.li * (l.ti + 1) = m at *
    unfold abI
    exact ⟨by omega,by omega,fun _ => ⟨by omega,by omega⟩⟩
   ·rw [if_neg e3]
    exact ⟨by omega,by omega,fun h => absurd h e3⟩
theorem bears_any (l : Ln) (s : Bool) (x y : Int) (p : Option Addr) (sm lf bo : Int) (w : World) (hf : FracAt w (.agg #[.bool s,.int .u64 x,.int .u64 y,.pointer p]) l.f) (ll : Len l.f 1) (hok : LnOk l) (h1 : 1 ≤ sm∧sm ≤ 1000000000000) (h2 : 0 ≤ lf∧lf ≤ 1000000000000) (h3 : 0 ≤ bo∧bo ≤ 1000000000000000) :
  Calls Tryz.prog 124 #[lineV l.kd s x y p l.fr l.li l.ti l.pr l.to,.int .i64 sm,.int .i64 lf,.int .i64 bo] w fun e w' => e = .returned (.int .i64 (brI l sm lf bo))∧But [] w w':=by
 obtain ⟨⟨a1,a2⟩,-,⟨r1,r2,r3,r4⟩,k1,k2,k3,k4⟩:=hok
 obtain ⟨n,rfl⟩ : ∃ n : Nat,lf = (n : Int):=⟨lf.toNat,by omega⟩
 obtain ⟨kd,f,fr,li,ti,pr,tof⟩:=l
 simp only at *
 have hkk : kd = 1 ∨ kd = 2 ∨ kd = 3 ∨ kd = 4:=by omega
 rcases hkk with rfl | rfl | rfl | rfl
 ·obtain ⟨z,hz,hzn⟩:=fl_part f n (k1 rfl).1.1 (k1 rfl).1.2
  have e : brI ⟨1,f,fr,li,ti,pr,tof⟩ sm (n : Int) bo = (z : Int):=by unfold brI; rw [if_pos rfl]; exact hz
  rw [e]
  exact bears_cede s x y p fr li ti pr tof f n z sm bo w hf ll (by omega) hz hzn
 ·obtain ⟨t,r,u,v,lt,ht,FT,CT⟩:=taken_at 2 s x y p fr li ti pr tof sm h1 r2 r4
  obtain ⟨et,t0,t1⟩:=taken_part t li ti sm h1.1 r2.1 r4.1 ht
  obtain ⟨z,hz,hzn⟩:=fl_part t n t0 t1
  have e : brI ⟨2,f,fr,li,ti,pr,tof⟩ sm (n : Int) bo = (z : Int):=by unfold brI; rw [if_neg (by simp),if_pos rfl,← et]; exact hz
  rw [e]
  exact bears_surplus s x y p fr li ti pr tof t r u v n z sm bo w lt FT CT (by omega) hz hzn
 ·have e : brI ⟨3,f,fr,li,ti,pr,tof⟩ sm (n : Int) bo = min (abI fr li n) (li * (ti + 1) - bo):=by unfold brI; rw [if_neg (by simp),if_neg (by simp),if_pos rfl]
  rw [e]
  exact bears_excess s x y p fr li ti pr tof n bo sm w h2 r1 r2 r4 h3
 ·have e : brI ⟨4,f,fr,li,ti,pr,tof⟩ sm (n : Int) bo = 0:=by unfold brI; rw [if_neg (by simp),if_neg (by simp),if_neg (by simp)]
  rw [e]
  exact bears_stop s x y p fr li ti pr tof n bo sm w
end Go.Proofs.YtjbboicccddhbaaGreatDoor
