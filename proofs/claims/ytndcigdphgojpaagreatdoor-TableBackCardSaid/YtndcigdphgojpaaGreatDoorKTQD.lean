/- A text is cut into its parts, as the Go text of package frac does it. -/
import Derived.Deep.RegionHeld
import Derived.Test.YtndcigdphgojpaaGreatDoorKTNA
namespace Go.Proofs.YtndcigdphgojpaaGreatDoor
open Go.RowKit

theorem extract_mid (t : ByteArray) (xs ds es : List UInt8) (h : t.data.toList = xs ++ ds ++ es) : (t.extract xs.length (xs.length + ds.length)).data.toList = ds:=by
 rw [ByteArray.data_extract,Array.toList_extract,List.extract_eq_take_drop,h,List.append_assoc,List.drop_left,Nat.add_sub_cancel_left,List.take_left]
theorem prefix_minus (ds : List UInt8) (h : ∀ d,ds.head? = some d→d ≠ 45) : Lib.hasPrefix ds [45] = false:=by
 cases ds with
 | nil => rfl
 | cons d ds =>
  have:=h d rfl
  simp [Lib.hasPrefix,List.isPrefixOf]
  exact fun e => this e.symm
theorem prefix_yes (ds : List UInt8) : Lib.hasPrefix (45 :: ds) [45] = true:=by simp [Lib.hasPrefix,List.isPrefixOf]
theorem digit_head {ds es : List UInt8} (h : Digits ds) (h0 : 0 < ds.length) : ∀ d,(ds ++ es).head? = some d→d ≠ 45:=fun d hd => by
 cases ds with
 | nil => simp at h0
 | cons x xs =>
  simp at hd
  subst hd
  have:=(h x (by simp)).1
  intro e
  rw [e] at this
  exact absurd this (by decide)

set_option maxHeartbeats 8000000 in
set_option maxRecDepth 100000 in
theorem cut_whole (t : ByteArray) (ds : List UInt8) (w : World) (ht : t.data.toList = [] ++ ds) (hd : Digits ds) (h0 : 0 < ds.length) (hl : ds.length < 1000) :
  Calls Tryz.prog 73 #[.string t] w fun e w' => ∃ tw : ByteArray,e = .returned (.tuple #[.agg #[.bool false,.string tw,.int .u8 0,.string ⟨#[]⟩,.bool false],.int .i64 (-1)])∧tw.data.toList = ds∧But [] w w':=by
 have htA : t.data.toList = [] ++ ds ++ []:=by rw [List.append_nil]; exact ht
 have HP : Hid (∀ W,Calls Tryz.prog 114 #[.string t,.string ⟨#[45]⟩] W fun e w' => e = .returned (.bool false)∧w' = W):=fun W => by
  have h:=Tryz.strings_HasPrefix t ⟨#[45]⟩ W
  rw [htA,show (⟨#[45]⟩ : ByteArray).data.toList = [45] from rfl,show [] ++ ds ++ [] = ds ++ [] from rfl,prefix_minus _ (digit_head (es:=[]) hd h0)] at h
  exact h
 have hszA : t.size = 0 + ds.length + ([] : List UInt8).length:=by
  have:=congrArg List.length htA
  simp only [List.length_append,List.length_nil] at this ⊢
  rw [← this]
  simp
 obtain ⟨m,hm⟩ : ∃ m,m = 0 + ds.length:=⟨_,rfl⟩
 have DE : Hid (∀ W,Calls Tryz.prog 115 #[.string t,.int .i64 0] W fun e w' => e = .returned (.int .i64 (m : Int))∧w' = W):=fun W => digitsEnd_any t _ ds [] 0 W htA (by simp) (by simp) hd (by simp) (by simp; omega) _ (by show _ = _; rw [hm])
 have hex : (t.extract 0 m).data.toList = ds:=by
  have:=extract_mid t [] ds [] htA
  rw [hm]
  exact this
 have hsz : t.size = m:=by rw [hszA,hm]; rfl
 have l3 : (t.size : Int) ≤ (m : Int):=by omega
 have l4 : decide ((m : Int) < (t.size : Int)) = false:=decide_eq_false (by omega)
 have n1 : ((m : Int) == 0) = false:=beq_eq_false_iff_ne.2 (by omega)
 have hm0 : 0 ≤ (m : Int):=by omega
 have hmt : (m : Int) ≤ (t.size : Int):=by omega
 have hm9 : m < 2000:=by omega
 have HEX:=hide hex
 clear hex ht htA hd h0 hl hszA hm hsz
 go_enter Tryz.func73,Tryz.ntmps73
 go_wp2_with fail
 refine (unhide HP _).mono ?_
 rintro e w1 ⟨rfl,hw⟩
 obtain rfl:=hw.symm
 clear hw
 go_wp2_with fail
 refine (unhide DE _).mono ?_
 rintro e w1 ⟨rfl,hw⟩
 obtain rfl:=hw.symm
 clear hw
 go_wp2
 exact bodyPost_ret (v:=.tuple #[.agg #[.bool false,.string (t.extract 0 m),.int .u8 0,.string (⟨#[]⟩),.bool false],.int .i64 (-1)]) (by simp [results,Tryz.results73,go_sem]) rfl ⟨t.extract 0 m,rfl,unhide HEX,((But.refl _ _).alloc _).alloc _⟩

set_option maxHeartbeats 8000000 in
set_option maxRecDepth 100000 in
theorem cut_lineQ (t : ByteArray) (ds es : List UInt8) (w : World) (ht : t.data.toList = [] ++ ds ++ (47 :: es)) (hd : Digits ds) (h0 : 0 < ds.length) (hl : ds.length < 1000) (hde : Digits es) (he0 : 0 < es.length) (hel : es.length < 1000) :
  Calls Tryz.prog 73 #[.string t] w fun e w' => ∃ tw tb : ByteArray,e = .returned (.tuple #[.agg #[.bool false,.string tw,.int .u8 47,.string tb,.bool false],.int .i64 (-1)])∧tw.data.toList = ds∧tb.data.toList = es∧But [] w w':=by
 have htA:=ht
 have HP : Hid (∀ W,Calls Tryz.prog 114 #[.string t,.string ⟨#[45]⟩] W fun e w' => e = .returned (.bool false)∧w' = W):=fun W => by
  have h:=Tryz.strings_HasPrefix t ⟨#[45]⟩ W
  rw [htA,show (⟨#[45]⟩ : ByteArray).data.toList = [45] from rfl,show [] ++ ds ++ (47 :: es) = ds ++ (47 :: es) from rfl,prefix_minus _ (digit_head (es:=(47 :: es)) hd h0)] at h
  exact h
 have hszA : t.size = 0 + ds.length + ((47 :: es) : List UInt8).length:=by
  have:=congrArg List.length htA
  simp only [List.length_append,List.length_cons,List.length_nil] at this ⊢
  rw [← this]
  simp
 obtain ⟨m,hm⟩ : ∃ m,m = 0 + ds.length:=⟨_,rfl⟩
 have DE : Hid (∀ W,Calls Tryz.prog 115 #[.string t,.int .i64 0] W fun e w' => e = .returned (.int .i64 (m : Int))∧w' = W):=fun W => digitsEnd_any t _ ds (47 :: es) 0 W htA (by simp) (by simp) hd (fun e he => by simp at he; subst he; left; decide) (by simp; omega) _ (by show _ = _; rw [hm])
 have hex : (t.extract 0 m).data.toList = ds:=by
  have:=extract_mid t [] ds (47 :: es) htA
  rw [hm]
  exact this
 obtain ⟨p,hp⟩ : ∃ p,p = m + 1 + es.length:=⟨_,rfl⟩
 have htB : t.data.toList = ([] ++ ds ++ [47]) ++ es:=by rw [htA]; simp
 have hlB : ([] ++ ds ++ [47] : List UInt8).length = m + 1:=by simp; omega
 have DE2 : Hid (∀ W,Calls Tryz.prog 115 #[.string t,.int .i64 ((m : Int) + 1)] W fun e w' => e = .returned (.int .i64 (p : Int))∧w' = W):=fun W => digitsEnd_any t _ es [] (m + 1) W htB (by rw [← hlB,List.drop_left,List.append_nil]) (by rw [List.length_append,hlB]; omega) hde (by simp) (by rw [List.length_append,hlB]; omega) _ (by show _ = _; rw [hp])
 have hex2 : (t.extract (m + 1) p).data.toList = es:=by
  have:=extract_mid t ([] ++ ds ++ [47]) es [] (by rw [List.append_nil]; exact htB)
  rw [hlB,← hp] at this
  exact this
 have hb : ∀ W,(Instr.index 9 (.string t) (.int .i64 (m : Int))).run Tryz.prog W = .ok (.int .u8 47) W:=fun W => by
  have:=byte_at htA m (by simp; omega) 9 Tryz.underlying9 W
  have e : (([] ++ ds ++ (47 :: es) : List UInt8))[m]?.getD 0 = 47:=by
   rw [List.getElem?_append_right (by simp; omega),show m - ([] ++ ds : List UInt8).length = 0 from by simp; omega]
   rfl
  rw [e] at this
  exact this
 have hsz : t.size = p:=by rw [hszA,hp,hm]; simp; omega
 have l1 : (m : Int) < (t.size : Int):=by omega
 have l2 : decide ((m : Int) < (t.size : Int)) = true:=decide_eq_true l1
 have l3 : (t.size : Int) ≤ (p : Int):=by omega
 have l4 : decide ((p : Int) < (t.size : Int)) = false:=decide_eq_false (by omega)
 have n2 : ((p : Int) == (m : Int) + 1) = false:=beq_eq_false_iff_ne.2 (by omega)
 have b1 : (m : Int) + 1 ≤ (p : Int):=by omega
 have b2 : (p : Int) ≤ (t.size : Int):=by omega
 have HEX2:=hide hex2
 have wm : IntKind.i64.wrap ((m : Int) + 1) = (m : Int) + 1:=by rw [IntKind.wrap_i64]; omega
 have hsl : ∀ W,(Instr.slice 9 (.string t) (some (.int .i64 ((m : Int) + 1))) (some (.int .i64 (p : Int))) none).run Tryz.prog W = .ok (.string (t.extract (m + 1) p)) W:=fun W => by
  rw [run_slice_string W 9 t .i64 .i64 _ _ Tryz.underlying9 (by omega) (by omega) (by omega)]
  rfl
 have n1 : ((m : Int) == 0) = false:=beq_eq_false_iff_ne.2 (by omega)
 have hm0 : 0 ≤ (m : Int):=by omega
 have hmt : (m : Int) ≤ (t.size : Int):=by omega
 have hm9 : m < 2000:=by omega
 have hp9 : p < 4000:=by omega
 have HEX:=hide hex
 clear hex ht htA hd h0 hl hszA hm hsz htB hlB hex2 hp hde he0 hel
 go_enter Tryz.func73,Tryz.ntmps73
 go_wp2_with fail
 refine (unhide HP _).mono ?_
 rintro e w1 ⟨rfl,hw⟩
 obtain rfl:=hw.symm
 clear hw
 go_wp2_with fail
 refine (unhide DE _).mono ?_
 rintro e w1 ⟨rfl,hw⟩
 obtain rfl:=hw.symm
 clear hw
 go_wp2_with fail
 refine (unhide DE2 _).mono ?_
 rintro e w1 ⟨rfl,hw⟩
 obtain rfl:=hw.symm
 clear hw
 go_wp2
 go_region_held (fun _ => True) (first | trivial | go_keep) (fail)
 all_goals go_wp2
 all_goals exact bodyPost_ret (v:=.tuple #[.agg #[.bool false,.string (t.extract 0 m),.int .u8 47,.string (t.extract (m + 1) p),.bool false],.int .i64 (-1)]) (by simp [results,Tryz.results73,go_sem]) rfl ⟨t.extract 0 m,t.extract (m + 1) p,rfl,unhide HEX,unhide HEX2,(((But.refl _ _).alloc _).alloc _).drew⟩

set_option maxHeartbeats 8000000 in
set_option maxRecDepth 100000 in
theorem cut_neg_whole (t : ByteArray) (ds : List UInt8) (w : World) (ht : t.data.toList = [45] ++ ds) (hd : Digits ds) (h0 : 0 < ds.length) (hl : ds.length < 1000) :
  Calls Tryz.prog 73 #[.string t] w fun e w' => ∃ tw : ByteArray,e = .returned (.tuple #[.agg #[.bool true,.string tw,.int .u8 0,.string ⟨#[]⟩,.bool false],.int .i64 (-1)])∧tw.data.toList = ds∧But [] w w':=by
 have htA : t.data.toList = [45] ++ ds ++ []:=by rw [List.append_nil]; exact ht
 have HP : Hid (∀ W,Calls Tryz.prog 114 #[.string t,.string ⟨#[45]⟩] W fun e w' => e = .returned (.bool true)∧w' = W):=fun W => by
  have h:=Tryz.strings_HasPrefix t ⟨#[45]⟩ W
  rw [htA,show (⟨#[45]⟩ : ByteArray).data.toList = [45] from rfl,show [45] ++ ds ++ [] = 45 :: (ds ++ []) from rfl,prefix_yes] at h
  exact h
 have hszA : t.size = 1 + ds.length + ([] : List UInt8).length:=by
  have:=congrArg List.length htA
  simp only [List.length_append,List.length_cons,List.length_nil] at this ⊢
  rw [← this]
  simp
 obtain ⟨m,hm⟩ : ∃ m,m = 1 + ds.length:=⟨_,rfl⟩
 have DE : Hid (∀ W,Calls Tryz.prog 115 #[.string t,.int .i64 1] W fun e w' => e = .returned (.int .i64 (m : Int))∧w' = W):=fun W => digitsEnd_any t _ ds [] 1 W htA (by simp) (by simp) hd (by simp) (by simp; omega) _ (by show _ = _; rw [hm])
 have hex : (t.extract 1 m).data.toList = ds:=by
  have:=extract_mid t [45] ds [] htA
  rw [hm]
  exact this
 have hsz : t.size = m:=by rw [hszA,hm]; rfl
 have l3 : (t.size : Int) ≤ (m : Int):=by omega
 have l4 : decide ((m : Int) < (t.size : Int)) = false:=decide_eq_false (by omega)
 have n1 : ((m : Int) == 1) = false:=beq_eq_false_iff_ne.2 (by omega)
 have hm0 : 1 ≤ (m : Int):=by omega
 have hmt : (m : Int) ≤ (t.size : Int):=by omega
 have hm9 : m < 2000:=by omega
 have HEX:=hide hex
 clear hex ht htA hd h0 hl hszA hm hsz
 go_enter Tryz.func73,Tryz.ntmps73
 go_wp2_with fail
 refine (unhide HP _).mono ?_
 rintro e w1 ⟨rfl,hw⟩
 obtain rfl:=hw.symm
 clear hw
 go_wp2_with fail
 refine (unhide DE _).mono ?_
 rintro e w1 ⟨rfl,hw⟩
 obtain rfl:=hw.symm
 clear hw
 go_wp2
 exact bodyPost_ret (v:=.tuple #[.agg #[.bool true,.string (t.extract 1 m),.int .u8 0,.string (⟨#[]⟩),.bool false],.int .i64 (-1)]) (by simp [results,Tryz.results73,go_sem]) rfl ⟨t.extract 1 m,rfl,unhide HEX,((But.refl _ _).alloc _).alloc _⟩

set_option maxHeartbeats 8000000 in
set_option maxRecDepth 100000 in
theorem cut_neg_line (t : ByteArray) (ds es : List UInt8) (w : World) (ht : t.data.toList = [45] ++ ds ++ (47 :: es)) (hd : Digits ds) (h0 : 0 < ds.length) (hl : ds.length < 1000) (hde : Digits es) (he0 : 0 < es.length) (hel : es.length < 1000) :
  Calls Tryz.prog 73 #[.string t] w fun e w' => ∃ tw tb : ByteArray,e = .returned (.tuple #[.agg #[.bool true,.string tw,.int .u8 47,.string tb,.bool false],.int .i64 (-1)])∧tw.data.toList = ds∧tb.data.toList = es∧But [] w w':=by
 have htA:=ht
 have HP : Hid (∀ W,Calls Tryz.prog 114 #[.string t,.string ⟨#[45]⟩] W fun e w' => e = .returned (.bool true)∧w' = W):=fun W => by
  have h:=Tryz.strings_HasPrefix t ⟨#[45]⟩ W
  rw [htA,show (⟨#[45]⟩ : ByteArray).data.toList = [45] from rfl,show [45] ++ ds ++ (47 :: es) = 45 :: (ds ++ (47 :: es)) from rfl,prefix_yes] at h
  exact h
 have hszA : t.size = 1 + ds.length + ((47 :: es) : List UInt8).length:=by
  have:=congrArg List.length htA
  simp only [List.length_append,List.length_cons,List.length_nil] at this ⊢
  rw [← this]
  simp
 obtain ⟨m,hm⟩ : ∃ m,m = 1 + ds.length:=⟨_,rfl⟩
 have DE : Hid (∀ W,Calls Tryz.prog 115 #[.string t,.int .i64 1] W fun e w' => e = .returned (.int .i64 (m : Int))∧w' = W):=fun W => digitsEnd_any t _ ds (47 :: es) 1 W htA (by simp) (by simp) hd (fun e he => by simp at he; subst he; left; decide) (by simp; omega) _ (by show _ = _; rw [hm])
 have hex : (t.extract 1 m).data.toList = ds:=by
  have:=extract_mid t [45] ds (47 :: es) htA
  rw [hm]
  exact this
 obtain ⟨p,hp⟩ : ∃ p,p = m + 1 + es.length:=⟨_,rfl⟩
 have htB : t.data.toList = ([45] ++ ds ++ [47]) ++ es:=by rw [htA]; simp
 have hlB : ([45] ++ ds ++ [47] : List UInt8).length = m + 1:=by simp; omega
 have DE2 : Hid (∀ W,Calls Tryz.prog 115 #[.string t,.int .i64 ((m : Int) + 1)] W fun e w' => e = .returned (.int .i64 (p : Int))∧w' = W):=fun W => digitsEnd_any t _ es [] (m + 1) W htB (by rw [← hlB,List.drop_left,List.append_nil]) (by rw [List.length_append,hlB]; omega) hde (by simp) (by rw [List.length_append,hlB]; omega) _ (by show _ = _; rw [hp])
 have hex2 : (t.extract (m + 1) p).data.toList = es:=by
  have:=extract_mid t ([45] ++ ds ++ [47]) es [] (by rw [List.append_nil]; exact htB)
  rw [hlB,← hp] at this
  exact this
 have hb : ∀ W,(Instr.index 9 (.string t) (.int .i64 (m : Int))).run Tryz.prog W = .ok (.int .u8 47) W:=fun W => by
  have:=byte_at htA m (by simp; omega) 9 Tryz.underlying9 W
  have e : (([45] ++ ds ++ (47 :: es) : List UInt8))[m]?.getD 0 = 47:=by
   rw [List.getElem?_append_right (by simp; omega),show m - ([45] ++ ds : List UInt8).length = 0 from by simp; omega]
   rfl
  rw [e] at this
  exact this
 have hsz : t.size = p:=by rw [hszA,hp,hm]; simp; omega
 have l1 : (m : Int) < (t.size : Int):=by omega
 have l2 : decide ((m : Int) < (t.size : Int)) = true:=decide_eq_true l1
 have l3 : (t.size : Int) ≤ (p : Int):=by omega
 have l4 : decide ((p : Int) < (t.size : Int)) = false:=decide_eq_false (by omega)
 have n2 : ((p : Int) == (m : Int) + 1) = false:=beq_eq_false_iff_ne.2 (by omega)
 have b1 : (m : Int) + 1 ≤ (p : Int):=by omega
 have b2 : (p : Int) ≤ (t.size : Int):=by omega
 have HEX2:=hide hex2
 have wm : IntKind.i64.wrap ((m : Int) + 1) = (m : Int) + 1:=by rw [IntKind.wrap_i64]; omega
 have hsl : ∀ W,(Instr.slice 9 (.string t) (some (.int .i64 ((m : Int) + 1))) (some (.int .i64 (p : Int))) none).run Tryz.prog W = .ok (.string (t.extract (m + 1) p)) W:=fun W => by
  rw [run_slice_string W 9 t .i64 .i64 _ _ Tryz.underlying9 (by omega) (by omega) (by omega)]
  rfl
 have n1 : ((m : Int) == 1) = false:=beq_eq_false_iff_ne.2 (by omega)
 have hm0 : 1 ≤ (m : Int):=by omega
 have hmt : (m : Int) ≤ (t.size : Int):=by omega
 have hm9 : m < 2000:=by omega
 have hp9 : p < 4000:=by omega
 have HEX:=hide hex
 clear hex ht htA hd h0 hl hszA hm hsz htB hlB hex2 hp hde he0 hel
 go_enter Tryz.func73,Tryz.ntmps73
 go_wp2_with fail
 refine (unhide HP _).mono ?_
 rintro e w1 ⟨rfl,hw⟩
 obtain rfl:=hw.symm
 clear hw
 go_wp2_with fail
 refine (unhide DE _).mono ?_
 rintro e w1 ⟨rfl,hw⟩
 obtain rfl:=hw.symm
 clear hw
 go_wp2_with fail
 refine (unhide DE2 _).mono ?_
 rintro e w1 ⟨rfl,hw⟩
 obtain rfl:=hw.symm
 clear hw
 go_wp2
 go_region_held (fun _ => True) (first | trivial | go_keep) (fail)
 all_goals go_wp2
 all_goals exact bodyPost_ret (v:=.tuple #[.agg #[.bool true,.string (t.extract 1 m),.int .u8 47,.string (t.extract (m + 1) p),.bool false],.int .i64 (-1)]) (by simp [results,Tryz.results73,go_sem]) rfl ⟨t.extract 1 m,t.extract (m + 1) p,rfl,unhide HEX,unhide HEX2,(((But.refl _ _).alloc _).alloc _).drew⟩

end Go.Proofs.YtndcigdphgojpaaGreatDoor
