/- A number picked by another, as the given text has it: any bound. -/
import Derived.Deep.DeepCutAuto
import Derived.Test.YtndcigdphgojpaaGreatDoorKTL1
import Derived.Test.YtndcigdphgojpaaGreatDoorKTQ4
import Derived.Test.YtndcigdphgojpaaGreatDoorKTT3r
namespace Go.Proofs.YtndcigdphgojpaaGreatDoor
open Go.RowKit

set_option maxHeartbeats 2000000 in
theorem pick_gen (a n : Int) (h1 : -9223372036854775808 ≤ a) (h2 : a < 9223372036854775808) (hn : 0 < n) (hn2 : n < 9223372036854775808) (w : World) :
  Calls Tryz.prog 7 #[.int .i64 a,.int .i64 n] w fun e w' => e = .returned (.int .i64 ((((if a < 0 then a + 18446744073709551616 else a) % n).toNat : Nat) : Int))∧But [] w w':=by
 obtain ⟨u,hu⟩ : ∃ u : Int,u = if a < 0 then a + 18446744073709551616 else a:=⟨_,rfl⟩
 have u1 : 0 ≤ u∧u < 18446744073709551616:=by rw [hu]; split <;> omega
 have e1 : IntKind.u64.wrap a = u:=by rw [IntKind.wrap_u64,hu]; split <;> omega
 rw [← hu]
 have e2:=Int.emod_nonneg u (show n ≠ 0 by omega)
 have e3:=Int.emod_lt_of_pos u hn
 clear hu
 have e5 : u.tmod n = u % n:=Int.tmod_eq_emod_of_nonneg u1.1
 obtain ⟨m,hm⟩ : ∃ m,m = u % n:=⟨_,rfl⟩
 rw [← hm] at e2 e3 e5 ⊢
 have e4 : ((m.toNat : Nat) : Int) = m:=by omega
 rw [e4]
 have e6 : IntKind.i64.wrap m = m:=by rw [IntKind.wrap_i64]; omega
 have e7 : IntKind.u64.wrap n = n:=by rw [IntKind.wrap_u64]; omega
 have e8 : IntKind.u64.wrap m = m:=by rw [IntKind.wrap_u64]; omega
 have n0 : (n == 0) = false:=beq_eq_false_iff_ne.2 (by omega)
 have n1 : n ≠ 0:=by omega
 clear e4 hm
 go_enter Tryz.func7,Tryz.ntmps7
 go_wp2
 go_ret
 exact ⟨rfl,But.refl _ _⟩
end Go.Proofs.YtndcigdphgojpaaGreatDoor

namespace Go.Proofs.YtndcigdphgojpaaGreatDoor
open Go.RowKit

theorem dec_upto (n m : Nat) (hm : 0 < m) (h : n < 10 ^ m) : (Lib.decDigits n).length ≤ m:=by
 rcases Nat.eq_zero_or_pos n with rfl | h0
 ·rw [Lib.decDigits_length,Lib.nDigits_small (by omega)]; omega
 ·rw [← rdig_rev n h0,List.length_reverse]; exact rdig_length n m h
end Go.Proofs.YtndcigdphgojpaaGreatDoor

namespace Go.Proofs.YtndcigdphgojpaaGreatDoor
open Go.RowKit

/-- a fraction's own text, read again -/
theorem parse_text (t : ByteArray) (f : Rat) (w : World) (ht : t = fracTxt (decide (f.num < 0)) f.num.natAbs f.den) (hN : f.num.natAbs < 18446744073709551616) (hD : f.den < 18446744073709551616) :
  Calls Tryz.prog 40 #[.string t] w fun e w' => ∃ v,e = .returned (.tuple #[v,.nilIface])∧FracAt w' v f∧But [] w w':=by
 obtain ⟨d1,d2,d3⟩:=dec_digits f.num.natAbs
 obtain ⟨e1,e2,e3⟩:=dec_digits f.den
 have l1:=dec_upto f.num.natAbs 20 (by omega) (by omega)
 have l2:=dec_upto f.den 20 (by omega) (by omega)
 have hs : f.num = sgn (decide (f.num < 0)) f.num.natAbs:=by
  unfold sgn
  by_cases h : f.num < 0
  ·rw [if_pos (decide_eq_true h)]; omega
  ·rw [if_neg (by simpa using h)]; omega
 have hsg : ∀ s : Bool,∀ x : ByteArray,(if s then (⟨#[45]⟩ : ByteArray) ++ x else x).data.toList = sg s ++ x.data.toList:=fun s x => by
  cases s
  ·simp [sg]
  ·simp [sg]
 by_cases hq : f.den = 1
 ·refine parse_whole t (decide (f.num < 0)) (Lib.decDigits f.num.natAbs) w ?_ d1 d3 (by omega) f ?_
  ·rw [ht]
   unfold fracTxt
   rw [if_pos hq,ba_nil,hsg]
  ·rw [d2,← hs,hq]; simp
 ·refine parse_line t (decide (f.num < 0)) (Lib.decDigits f.num.natAbs) (Lib.decDigits f.den) w ?_ d1 d3 (by omega) e1 e3 (by omega) (by rw [e2]; exact den_pos f) f ?_
  ·rw [ht]
   unfold fracTxt
   rw [if_neg hq,ba_list,hsg,ba_list]
   rfl
  ·rw [d2,e2,← hs]
end Go.Proofs.YtndcigdphgojpaaGreatDoor

namespace Go.Proofs.YtndcigdphgojpaaGreatDoor
open Go.RowKit Go.Shelf
set_option linter.unusedVariables false

set_option maxHeartbeats 16000000 in
set_option maxRecDepth 100000 in
theorem fractions_any (q : Option Addr) (n c : Nat) (fs : List Rat) (w : World) (hv : PlacedAt w (.slice q n c) (fs.map fracT)) (hN : n = fs.length) (hn : n ≤ 1000) (lf : ∀ f ∈ fs,Len f 1) :
  Calls Tryz.prog 17 #[.slice q n c] w fun e w' => ∃ g,e = .returned (.tuple #[.slice (some ⟨g,0,none⟩) n n,.nilIface])∧FracsAt w' (.slice (some ⟨g,0,none⟩) n n) fs∧But [] w w':=by
 have PA : Hid (∀ f ∈ fs,∀ W,Calls Tryz.prog 40 #[.string ⟨(fracT f).toArray⟩] W fun e w' => ∃ s x y p,e = .returned (.tuple #[.agg #[.bool s,.int .u64 x,.int .u64 y,.pointer p],.nilIface])∧FracAt w' (.agg #[.bool s,.int .u64 x,.int .u64 y,.pointer p]) f∧But [] W w'):=fun f hf W => by
  have hlf:=(lf f hf).lt
  rw [Nat.pow_one] at hlf
  refine (parse_text ⟨(fracT f).toArray⟩ f W (by unfold fracT; simp) hlf.1 hlf.2).mono ?_
  rintro e w' ⟨v,rfl,hv,hb⟩
  obtain ⟨x,y,p,rfl,-⟩:=hv.agg
  exact ⟨_,x,y,p,rfl,hv,hb⟩
 have hmk:=fun wx => run_makeF wx n (by omega)
 have HV:=hide hv
 have HN:=hide hN
 have R0:=hide (Row4.made w n (fun i => fs[i]?.getD 0))
 have B0 : Hid (But [] w (w.alloc (.cells (madeCells #[.bool false,.int .u64 0,.int .u64 0,.pointer none] (n * 4)) 36))):=(But.refl _ _).alloc _
 have L0 : Hid (w.heap.size < (w.alloc (.cells (madeCells #[.bool false,.int .u64 0,.int .u64 0,.pointer none] (n * 4)) 36)).heap.size):=by show _ < _; simp
 clear hv hN lf
 go_enter Tryz.func17,Tryz.ntmps17
 go_wp2
 generalize hG : w.heap.size = G at R0 L0 ⊢
 have HG : Hid (w.heap.size ≤ G):=Nat.le_of_eq hG
 generalize w.alloc (.cells (madeCells #[.bool false,.int .u64 0,.int .u64 0,.pointer none] (n * 4)) 36) = V0 at *
 clear hG hmk
 go_loopw [14] (fun i wr => ∃ k : Nat,k ≤ n∧i = .int .i64 (k : Int)∧Hid (Row4 wr G n k (fun i => fs[i]?.getD 0))∧Hid (G < wr.heap.size)∧Hid (But [] w wr)) (fun i _ => n - (intOf i).toNat)
 case atStart => exact ⟨0,Nat.zero_le _,rfl,unhide R0,unhide L0,unhide B0⟩
 case round =>
  obtain ⟨k,hk,rfl,HR,HL,HB⟩:=hrel
  rename World => wr
  clear R0 B0 L0
  by_cases hlt : k < n
  ·have hkr : k < fs.length:=by have:=unhide HN; omega
   have hge : fs[k]? = some fs[k]:=List.getElem?_eq_getElem hkr
   have hmem : fs[k] ∈ fs:=List.getElem_mem hkr
   obtain ⟨b,off,p,rfl,c0,c1⟩:=((unhide HV).but (unhide HB)).at k (fracT fs[k]) (by rw [List.getElem?_map,hge]; rfl)
   have PA1:=hide (unhide PA fs[k] hmem)
   have hF : (fun i => fs[i]?.getD 0) k = fs[k]:=by simp only [hge,Option.getD_some]
   obtain ⟨f,hf⟩ : ∃ f,f = fs[k]:=⟨_,rfl⟩
   rw [← hf] at PA1 hF c0
   have HF:=hide hF
   have bA : But [] wr (wr.alloc (.cells #[.string ⟨(fracT f).toArray⟩,.int .i64 p] 55)):=(But.refl _ _).alloc _
   have BA:=hide bA
   clear hge hmem hf bA hF
   go_wp2_with fail
   refine (unhide PA1 _).mono ?_
   rintro e w2 ⟨s2,x2,y2,p2,rfl,hf2,hb2⟩
   have bC : But [] w2 (w2.alloc (.cells #[.bool s2,.int .u64 x2,.int .u64 y2,.pointer p2] 36)):=(But.refl _ _).alloc _
   have B2:=hide (((unhide BA).trans' hb2).trans' bC)
   have hr2:=(unhide HR).but (unhide B2) (unhide HL)
   have R2:=hide hr2
   have F2:=hide (hf2.but bC)
   obtain ⟨k0,k1,k2,k3⟩:=hr2.blank k (Nat.le_refl _) hlt
   have pf:=hr2.loose
   clear hf2 hb2 hr2 bC PA1 BA c0 c1
   go_wp2
   have hS:=but_setCells (w2.alloc (.cells #[.bool s2,.int .u64 x2,.int .u64 y2,.pointer p2] 36)) G [.bool s2,.int .u64 x2,.int .u64 y2,.pointer p2] (k * 4)
   have F2':=unhide F2
   rw [← unhide HF] at F2'
   exact ⟨⟨k + 1,by omega,by go_num,(unhide R2).next hlt s2 x2 y2 p2 F2',Nat.lt_of_lt_of_le (Nat.lt_of_lt_of_le (unhide HL) (unhide B2).size) hS.size,((unhide HB).trans' (unhide B2)).trans hS (fun x hx => by simp at hx; subst hx; exact .inr (unhide HG))⟩,by simp [intOf] <;> omega⟩
  ·obtain rfl : k = n:=by omega
   have hfs:=(unhide HR).fracs
   have e : (List.range k).map (fun i => fs[i]?.getD 0) = fs:=by
    refine List.ext_getElem? fun i => ?_
    rw [List.getElem?_map]
    have:=unhide HN
    rcases Nat.lt_or_ge i k with h | h
    ·rw [List.getElem?_range h,List.getElem?_eq_getElem (by omega)]
     simp [List.getElem?_eq_getElem (show i < fs.length by omega)]
    ·rw [List.getElem?_eq_none (by simpa using h),List.getElem?_eq_none (by omega)]
     rfl
   rw [e] at hfs
   have HFS:=hide hfs
   clear e hfs HR
   go_wp2
   exact bodyPost_ret (v:=.tuple #[.slice (some ⟨G,0,none⟩) k k,.nilIface]) (by simp [results,Tryz.results17,go_sem]) rfl ⟨G,rfl,unhide HFS,unhide HB⟩
end Go.Proofs.YtndcigdphgojpaaGreatDoor
