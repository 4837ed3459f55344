/- The mean of a law, the mean beyond an amount, the greatest amount that has a chance, as the Go text of package claims finds them. -/
import Derived.Test.YtikgmhpbdcdogaaGreatDoorYF10
import Derived.Test.YtikgmhpbdcdogaaGreatDoorYK7
namespace Go.Proofs.YtikgmhpbdcdogaaGreatDoor
open Go.RowKit

/-- a fraction and no error where there is none, nought and the error else -/
def MeanIs (w : World) (e : Ending) (q : Int) (m : Rat) : Prop:=(q ≠ 0∧e = .returned (.tuple #[.agg #[.bool false,.int .u64 0,.int .u64 0,.pointer none],.iface 54 (.int .i64 q)])) ∨ (q = 0∧∃ s x y p,e = .returned (.tuple #[.agg #[.bool s,.int .u64 x,.int .u64 y,.pointer p],.nilIface])∧FracAt w (.agg #[.bool s,.int .u64 x,.int .u64 y,.pointer p]) m)

set_option maxHeartbeats 16000000 in
set_option maxRecDepth 100000 in
theorem lawMean_any (v : Value) (fs : List Rat) (c : Nat) (w : World) (hv : FracsAt w v fs) (hn : fs.length ≤ 1000) (lf : ∀ f ∈ fs,Len f c) (hc : c ≤ 100) :
  Calls Tryz.prog 14 #[v] w fun e w' => MeanIs w' e (chkE fs) (meanR fs (fun k => (k : Int)) fs.length)∧But [] w w':=by
 have CH:=hide (fun W (h : But [] w W) => lawCheck_any v fs c W (hv.but h) hn lf hc)
 have ME:=hide (fun W (h : But [] w W) => mean_any v fs c 46 #[] (fun k => (k : Int)) W (hv.but h) hn lf hc (fun k hk => ⟨by omega,by omega⟩) enters_amount (fun k _ W _ => (amount_any k W).mono (fun e w' h => ⟨h.1,by rw [h.2]; exact But.refl _ _⟩)))
 obtain ⟨q,cap,rfl,hcap,-⟩:=id hv
 generalize hq : chkE fs = ce at *
 clear hq hv
 have x2:=BoxAt.new w false 0 0 none 0 29 (zero_at _)
 have bA : But [] w (w.alloc (.cells #[.bool false,.int .u64 0,.int .u64 0,.pointer none] 29)):=(But.refl _ _).alloc _
 have X2:=hide x2
 have BA:=hide bA
 clear x2 bA
 have Q2 : Hid (w.heap.size ≤ w.heap.size):=Nat.le_refl _
 go_enter Tryz.func14,Tryz.ntmps14
 go_wp2_with fail
 refine (unhide CH _ (unhide BA)).mono ?_
 rintro e w1 ⟨rfl,hb1⟩
 have B1:=hide ((unhide BA).trans' hb1)
 have X21:=hide ((unhide X2).but hb1)
 clear hb1 CH X2 BA
 generalize hg2 : w.heap.size = g2 at *
 obtain ⟨⟨t2,a2,b2,q2,⟨c0,c1,c2,c3⟩,-⟩,z2⟩:=unhide X21
 unfold errV
 by_cases h0 : ce = 0
 ·subst h0
  rw [if_pos rfl]
  go_wp2_with fail
  refine (unhide ME _ (unhide B1)).mono ?_
  rintro e w2 ⟨s,x,y,p,rfl,hf,hb2⟩
  have l2 : g2 < w1.heap.size:=lt_of_cell c0
  have z2' : ∀ j,w2.frozen? ⟨g2,j,none⟩ = false:=fun j => (hb2.frozen (p:=⟨g2,j,none⟩) l2 (by simp)).trans (z2 j)
  replace c0:=hb2.cell_some c0 (by simp)
  replace c1:=hb2.cell_some c1 (by simp)
  replace c2:=hb2.cell_some c2 (by simp)
  replace c3:=hb2.cell_some c3 (by simp)
  have B2:=hide ((unhide B1).trans' hb2)
  have HF:=hide hf
  have P2 : Hid (P4 w2 g2 t2 a2 b2 q2):=⟨c0,c1,c2,c3⟩
  clear hb2 hf ME z2 B1
  go_wp2
  have hP:=put4_but w2 g2 s x y p
  obtain ⟨m0,m1,m2,m3⟩:=put4_p4 w2 g2 s x y p (unhide P2)
  have hF : But [] w (put4 w2 g2 s x y p):=(unhide B2).trans hP (fun x hx => by simp at hx; subst hx; exact .inr (by omega))
  have hff:=(unhide HF).over (unhide P2).1 hP
  change bodyPost _ _ _ _ _ (put4 w2 g2 s x y p)
  generalize put4 w2 g2 s x y p = F at *
  exact bodyPost_ret (v:=.tuple #[.agg #[.bool s,.int .u64 x,.int .u64 y,.pointer p],.nilIface]) (by simp [results,Tryz.results14,go_sem,m0,m1,m2,m3]) rfl ⟨.inr ⟨rfl,_,_,_,_,rfl,hff⟩,hF⟩
 ·rw [if_neg h0]
  have P2 : Hid (P4 w1 g2 t2 a2 b2 q2):=⟨c0,c1,c2,c3⟩
  go_wp2
  have hP:=put4_but w1 g2 false 0 0 none
  obtain ⟨m0,m1,m2,m3⟩:=put4_p4 w1 g2 false 0 0 none (unhide P2)
  have hF : But [] w (put4 w1 g2 false 0 0 none):=(unhide B1).trans hP (fun x hx => by simp at hx; subst hx; exact .inr (by omega))
  change bodyPost _ _ _ _ _ (put4 w1 g2 false 0 0 none)
  generalize put4 w1 g2 false 0 0 none = F at *
  exact bodyPost_ret (v:=.tuple #[.agg #[.bool false,.int .u64 0,.int .u64 0,.pointer none],.iface 54 (.int .i64 ce)]) (by simp [results,Tryz.results14,go_sem,m0,m1,m2,m3]) rfl ⟨.inl ⟨h0,rfl⟩,hF⟩
end Go.Proofs.YtikgmhpbdcdogaaGreatDoor

namespace Go.Proofs.YtikgmhpbdcdogaaGreatDoor
open Go.RowKit

set_option maxHeartbeats 8000000 in
set_option maxRecDepth 100000 in
theorem greatest_any (v : Value) (fs : List Rat) (m : Nat) (w : World) (hv : FracsAt w v fs) (hn : fs.length ≤ 1000) (hm : m < fs.length) (h1 : (fs[m]?.getD 0).num ≠ 0) (h2 : ∀ j,m < j→j < fs.length→(fs[j]?.getD 0).num = 0) :
  Calls Tryz.prog 34 #[v] w fun e w' => e = .returned (.int .i64 (m : Int))∧But [] w w':=by
 rcases hv.open with ⟨rfl,-⟩ | ⟨-,b,off,cap,rfl,-,-⟩
 ·simp at hm
 obtain ⟨n,hN⟩ : ∃ n,n = fs.length:=⟨_,rfl⟩
 rw [← hN] at hn hm h2 ⊢
 rw [← hN] at hv
 have HV:=hide hv
 have H1:=hide h1
 have H2:=hide h2
 clear hv h1 h2 hN
 have hn1 : ((n : Int) - 1) = ((n - 1 : Nat) : Int):=by omega
 go_enter Tryz.func34,Tryz.ntmps34
 go_wp2
 go_loopw [3] (fun iv wr => ∃ k : Nat,m ≤ k∧k < n∧iv = .int .i64 (k : Int)∧Hid (But [] w wr)) (fun iv _ => (intOf iv).toNat)
 case atStart => exact ⟨n - 1,by omega,by omega,by first | rfl | rw [hn1],But.refl _ _⟩
 case round =>
  obtain ⟨k,hmk,hkn,rfl,HI⟩:=hrel
  rename World => wr
  obtain ⟨sr,xr,yr,pr,⟨r0,r1,r2,r3⟩,hfr⟩:=((unhide HV).but (unhide HI)).get k hkn
  have SG:=hide (fracSign_any _ _ wr hfr)
  clear hfr
  by_cases hk : k = m
  ·subst hk
   have hs : (fs[k]?.getD 0).num.sign ≠ 0:=fun e => unhide H1 (Int.sign_eq_zero_iff_zero.1 e)
   generalize (fs[k]?.getD 0).num.sign = sg at *
   go_wp2_with fail
   refine (unhide SG).mono ?_
   rintro e w1 ⟨rfl,hb1⟩
   have B1:=hide ((unhide HI).trans' hb1)
   clear hb1
   go_wp2
   go_ret
   exact ⟨rfl,unhide B1⟩
  ·rw [unhide H2 k (by omega) hkn,Int.sign_zero] at SG
   go_wp2_with fail
   refine (unhide SG).mono ?_
   rintro e w1 ⟨rfl,hb1⟩
   have B1:=hide ((unhide HI).trans' hb1)
   clear hb1
   have hk1 : ((k : Int) - 1) = ((k - 1 : Nat) : Int):=by omega
   go_wp2
   exact ⟨⟨k - 1,by omega,by omega,by first | rfl | rw [hk1],unhide B1⟩,by simp [intOf]; omega⟩
end Go.Proofs.YtikgmhpbdcdogaaGreatDoor
