/- A table made, as the Go text of package table makes it. -/
import Derived.Test.YtndcigdphgojpaaGreatDoorKTAZc
import Derived.Test.YtndcigdphgojpaaGreatDoorKTCJ
import Derived.Test.YtndcigdphgojpaaGreatDoorKTPw
import Derived.Test.YtndcigdphgojpaaGreatDoorKTXB
namespace Go.Proofs.YtndcigdphgojpaaGreatDoor
open Go.RowKit Go.Shelf
set_option linter.unusedVariables false

/-- a table may be -/
def TabOk (z : Int) (fs : List Rat) : Prop:=0 < fs.length∧0 ≤ z∧z ≤ 130 - ((fs.length : Int) - 1)∧LastOk fs
def NewPost (z : Int) (fs : List Rat) (w : World) (e : Ending) (w' : World) : Prop:=But [] w w'∧((TabOk z fs∧∃ g,e = .returned (.tuple #[.pointer (some ⟨g,0,none⟩),.nilIface])∧TabAt w' g z fs) ∨ (¬ TabOk z fs∧∃ c,c ≠ 0∧-1000 ≤ c∧c ≤ 1000∧e = .returned (.tuple #[.pointer none,.iface 24 (.int .i64 c)])))
set_option maxHeartbeats 16000000 in
set_option maxRecDepth 100000 in
theorem tableNew_any (z : Int) (v : Value) (fs : List Rat) (w : World) (hv : FracsAt w v fs) (hn : fs.length ≤ 60) (lf : ∀ f ∈ fs,Len f 1) :
  Calls Tryz.prog 11 #[.string ⟨#[116]⟩,.int .i64 z,v] w fun e w' => NewPost z fs w e w':=by
 obtain ⟨q,cap,rfl,hcap,-⟩:=id hv
 have TN:=hide (fun W => tableName_yes ⟨#[116]⟩ W ⟨fun j hj => by
  obtain rfl : j = 0 := Nat.lt_one_iff.1 (show j < 1 from hj)
  show okB 116
  unfold okB
  omega,by decide,by decide⟩)
 have EL : Hid (0 < fs.length→∀ W,But [] w W→Calls Tryz.prog 33 #[.slice q fs.length cap] W fun e w' => ∃ bb,e = .returned (.bool bb)∧(bb = true ↔ LastOk fs)∧But [] W w'):=fun h0 W hb => endAtLast_any _ fs W (hv.but hb) h0 hn lf
 have SC:=hide (fun W => strClone_any ⟨#[116]⟩ (by decide) W)
 have CL : Hid (0 < fs.length→∀ W,But [] w W→Calls Tryz.prog 35 #[.slice q fs.length cap] W fun e w' => ∃ q c,e = .returned (.slice q fs.length c)∧FracsAt w' (.slice q fs.length c) fs∧But [] W w'):=fun h0 W hb => cloneF_any _ fs W (hv.but hb) h0 (by omega)
 obtain ⟨n,hN⟩ : ∃ n,n = fs.length:=⟨_,rfl⟩
 rw [← hN] at EL CL hn hcap ⊢
 have HN:=hide hN
 clear hv lf hN
 go_enter Tryz.func11,Tryz.ntmps11
 go_wp2_with fail
 refine (unhide TN _).mono ?_
 rintro e w1 ⟨rfl,hb1⟩
 have B1:=hide hb1
 clear hb1 TN
 by_cases h0 : n = 0
 ·subst h0
  have NO : Hid (¬ TabOk z fs):=fun h => by have:=h.1; have:=unhide HN; omega
  clear EL SC CL
  go_wp2
  exact bodyPost_ret (v:=.tuple #[.pointer none,.iface 24 (.int .i64 2)]) (by simp [results,Tryz.results11,go_sem]) rfl ⟨unhide B1,.inr ⟨unhide NO,2,by decide,by decide,by decide,rfl⟩⟩
 ·have e0 : ((n : Int) == 0) = false:=beq_eq_false_iff_ne.2 (by omega)
  by_cases h1 : z < 0
  ·have NO : Hid (¬ TabOk z fs):=fun h => by have:=h.2.1; omega
   have d1 : decide (z < 0) = true:=decide_eq_true h1
   clear EL SC CL
   go_wp2
   exact bodyPost_ret (v:=.tuple #[.pointer none,.iface 24 (.int .i64 2)]) (by simp [results,Tryz.results11,go_sem]) rfl ⟨unhide B1,.inr ⟨unhide NO,2,by decide,by decide,by decide,rfl⟩⟩
  ·have d1 : decide (z < 0) = false:=decide_eq_false h1
   by_cases h2 : 130 - ((n : Int) - 1) < z
   ·have NO : Hid (¬ TabOk z fs):=fun h => by have:=h.2.2.1; have:=unhide HN; omega
    have d2 : decide (130 - ((n : Int) - 1) < z) = true:=decide_eq_true h2
    clear EL SC CL
    go_wp2
    exact bodyPost_ret (v:=.tuple #[.pointer none,.iface 24 (.int .i64 2)]) (by simp [results,Tryz.results11,go_sem]) rfl ⟨unhide B1,.inr ⟨unhide NO,2,by decide,by decide,by decide,rfl⟩⟩
   ·have d2 : decide (130 - ((n : Int) - 1) < z) = false:=decide_eq_false h2
    have EL1:=hide (unhide EL (by omega) w1 (unhide B1))
    have CL1:=hide (unhide CL (by omega))
    clear EL CL
    go_wp2_with fail
    refine (unhide EL1).mono ?_
    rintro e w2 ⟨bb,rfl,hbb,hb2⟩
    have B2:=hide ((unhide B1).trans' hb2)
    have HBB:=hide hbb
    clear hb2 hbb EL1 B1
    cases bb with
    | false =>
     have NO : Hid (¬ TabOk z fs):=fun h => by have:=(unhide HBB).2 h.2.2.2; simp at this
     clear SC CL1
     go_wp2
     exact bodyPost_ret (v:=.tuple #[.pointer none,.iface 24 (.int .i64 1)]) (by simp [results,Tryz.results11,go_sem]) rfl ⟨unhide B2,.inr ⟨unhide NO,1,by decide,by decide,by decide,rfl⟩⟩
    | true =>
     have YES : Hid (TabOk z fs):=⟨by have:=unhide HN; omega,by omega,by have:=unhide HN; omega,(unhide HBB).1 rfl⟩
     go_wp2_with fail
     refine (unhide SC _).mono ?_
     rintro e w3 ⟨rfl,hb3⟩
     have B3:=hide ((unhide B2).trans' hb3)
     clear hb3 SC B2
     go_wp2_with fail
     refine (unhide CL1 _ (unhide B3)).mono ?_
     rintro e w4 ⟨q4,c4,rfl,hf4,hb4⟩
     have bA : But [] w4 (w4.alloc (.cells #[.string ⟨#[116]⟩,.int .i64 z,.slice q4 n c4] 60)):=(But.refl _ _).alloc _
     have B4:=hide (((unhide B3).trans' hb4).trans' bA)
     have F4:=hide (hf4.but bA)
     clear hb4 hf4 bA B3 CL1
     go_wp2
     have hT : TabAt (w4.alloc (.cells #[.string ⟨#[116]⟩,.int .i64 z,.slice q4 n c4] 60)) w4.heap.size z fs:=by
      have hf:=unhide F4
      have hn':=unhide HN
      subst hn'
      rcases hf.open with ⟨er,-⟩ | ⟨-,b,off,c2,er,-,-⟩
      ·rw [er] at h0; simp at h0
      ·simp only [Value.slice.injEq] at er
       obtain ⟨rfl,-,-⟩:=er
       exact ⟨b,off,c4,by simp,by simp,by simp,hf⟩
     exact bodyPost_ret (v:=.tuple #[.pointer (some ⟨w4.heap.size,0,none⟩),.nilIface]) (by simp [results,Tryz.results11,go_sem]) rfl ⟨unhide B4,.inl ⟨unhide YES,_,rfl,hT⟩⟩
end Go.Proofs.YtndcigdphgojpaaGreatDoor

namespace Go.Proofs.YtndcigdphgojpaaGreatDoor
open Go.RowKit Go.Shelf
set_option linter.unusedVariables false

theorem itoaT_at (z : Int) (h0 : 0 ≤ z) (h1 : z ≤ 1000000000000000) (w : World) (htab : Lib.TabIs Tryz.prog w "internal/strconv.uint64pow10" .u64 Lib.pow10Tab) : Calls Tryz.prog 19 #[.int .i64 z] w fun e w' => e = .returned (.string ⟨(Lib.itoa z).toArray⟩)∧But [] w w' :=
 (Any.strconv_Itoa Tryz.laysM171 z (by omega) (by omega) w htab).mono (by rintro e w' ⟨rfl,k,os,rfl⟩; exact ⟨rfl,but_growT _ _ _⟩)
theorem itoaT_ok (z : Int) (h0 : 0 ≤ z) (h1 : z ≤ 1000000000000000) : WordOk (Lib.itoa z):=by
 rw [itoa_of z h0]
 have d1:=digits_len 15 z.toNat (by omega)
 have nB:=digits_are z.toNat
 have n1:=digits_ne z.toNat
 exact ⟨⟨n1,fun h => by have:=nB _ h; simp at this,fun h => by have:=nB _ h; simp at this⟩,by omega⟩
/-- the words of a table's text -/
def wsTab (z : Int) (fs : List Rat) : List (List UInt8):=wsT (Lib.itoa z) (fs.map fracT)
theorem wsTab_ok (z : Int) (fs : List Rat) (h0 : 0 ≤ z) (h1 : z ≤ 1000000000000000) (lf : ∀ f ∈ fs,Len f 1) : ∀ x ∈ wsTab z fs,WordOk x:=fun x hx => by
 simp only [wsTab,wsT,List.mem_cons] at hx
 rcases hx with rfl | rfl | rfl | rfl | rfl | hx
 ·exact ⟨⟨by decide,by decide,by decide⟩,by decide⟩
 ·exact ⟨⟨by decide,by decide,by decide⟩,by decide⟩
 ·exact ⟨⟨by decide,by decide,by decide⟩,by decide⟩
 ·exact itoaT_ok z h0 h1
 ·exact ⟨⟨by decide,by decide,by decide⟩,by decide⟩
 ·obtain ⟨f,hf,rfl⟩:=List.mem_map.1 hx
  have hlf:=(lf f hf).lt
  rw [Nat.pow_one] at hlf
  exact fracT_ok f hlf.1 hlf.2
theorem wsTab_len (z : Int) (fs : List Rat) : (wsTab z fs).length = fs.length + 5:=by simp [wsTab,wsT]
theorem wsTab_short (z : Int) (fs : List Rat) (h0 : 0 ≤ z) (h1 : z ≤ 1000000000000000) (lf : ∀ f ∈ fs,Len f 1) (hn : fs.length ≤ 60) : (jn 32 (wsTab z fs)).length ≤ 50000:=by
 have:=jn_short 32 60 (wsTab z fs) (fun x hx => (wsTab_ok z fs h0 h1 lf x hx).2)
 rw [wsTab_len] at this
 omega
theorem text_words (z : Int) (fs : List Rat) (h : 0 < fs.length) : (((((((((⟨#[116,97,98,108,101,32]⟩ : ByteArray) ++ (⟨#[116]⟩ : ByteArray)) ++ (⟨#[32]⟩ : ByteArray)) ++ (⟨#[102,114,111,109]⟩ : ByteArray)) ++ (⟨#[32]⟩ : ByteArray)) ++ ⟨(Lib.itoa z).toArray⟩) ++ (⟨#[32]⟩ : ByteArray)) ++ (⟨#[114,97,116,101,115]⟩ : ByteArray)) ++ (⟨#[32]⟩ : ByteArray)) ++ ⟨(jn 32 (fs.map fracT)).toArray⟩ = ⟨(jn 32 (wsTab z fs)).toArray⟩:=by
 apply ByteArray.ext
 rw [← Array.toList_inj]
 simp only [ByteArray.data_append,Array.toList_append]
 cases e : fs.map fracT with
 | nil => rw [List.map_eq_nil_iff] at e; rw [e] at h; simp at h
 | cons x l =>
  unfold wsTab wsT
  rw [e]
  simp [jn]
set_option maxHeartbeats 8000000 in
set_option maxRecDepth 100000 in
theorem tabText_any (g : Nat) (z : Int) (fs : List Rat) (w : World) (h : TabAt w g z fs) (h0 : 0 ≤ z) (h1 : z ≤ 1000) (hn0 : 0 < fs.length) (hn : fs.length ≤ 60) (lf : ∀ f ∈ fs,Len f 1) (htab : Lib.TabIs Tryz.prog w "internal/strconv.uint64pow10" .u64 Lib.pow10Tab) :
  Calls Tryz.prog 6 #[.pointer (some ⟨g,0,none⟩)] w fun e w' => e = .returned (strV (jn 32 (wsTab z fs)))∧But [] w w':=by
 obtain ⟨b,off,c,c0,c1,c2,hf⟩:=h
 have IT:=hide (fun W (hb : But [] w W) => itoaT_at z h0 (by omega) W (TabIs.but htab hb))
 have WO:=hide (fun W (hb : But [] w W) => fracWords_any _ fs W (hf.but hb) (by omega) lf (TabIs.but htab hb))
 have TX:=hide (text_words z fs hn0)
 have s1 : (⟨(Lib.itoa z).toArray⟩ : ByteArray).size ≤ 1000:=by
  have:=(itoaT_ok z h0 (by omega)).2
  show (Lib.itoa z).toArray.size ≤ _
  simp
  omega
 have s2 : (⟨(jn 32 (fs.map fracT)).toArray⟩ : ByteArray).size ≤ 1000000:=by
  have:=jn_short 32 60 (fs.map fracT) (fun x hx => by
   obtain ⟨f,hf,rfl⟩:=List.mem_map.1 hx
   have hlf:=(lf f hf).lt
   rw [Nat.pow_one] at hlf
   exact (fracT_ok f hlf.1 hlf.2).2)
  rw [List.length_map] at this
  show (jn 32 (fs.map fracT)).toArray.size ≤ _
  simp
  omega
 unfold strV at WO ⊢
 generalize (⟨(Lib.itoa z).toArray⟩ : ByteArray) = nu at *
 generalize (⟨(jn 32 (fs.map fracT)).toArray⟩ : ByteArray) = rs at *
 generalize (⟨(jn 32 (wsTab z fs)).toArray⟩ : ByteArray) = tt at *
 clear hf lf htab
 go_enter Tryz.func6,Tryz.ntmps6
 go_wp2
 refine ttext_region1 1 _ _ w g z (some ⟨b,off,none⟩) fs.length c ⟨#[116]⟩ nu rs (by simp) (by simp [Act.eval]) (by decide) s1 s2 c0 c1 c2 (unhide IT) (unhide WO) ?_
 intro w1 hb1
 rw [unhide TX]
 simp only [putted,List.foldl_cons,List.foldl_nil,Act.put,List.setIfInBounds_toArray,List.set_cons_zero,List.set_cons_succ]
 have B1:=hide hb1
 clear hb1 c0 c1 c2
 go_wp2
 exact bodyPost_ret (v:=.string tt) (by simp [results,Tryz.results6,go_sem]) rfl ⟨rfl,unhide B1⟩
end Go.Proofs.YtndcigdphgojpaaGreatDoor
