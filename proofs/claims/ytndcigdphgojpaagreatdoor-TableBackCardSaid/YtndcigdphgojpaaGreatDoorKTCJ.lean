/- A table in memory: its ages, who stays, how likely one lives so long, as the Go text of package table tells them. -/
import Derived.Test.YtndcigdphgojpaaGreatDoorKTQ4
import Derived.Test.YtndcigdphgojpaaGreatDoorKTT3r
namespace Go.Proofs.YtndcigdphgojpaaGreatDoor
open Go.RowKit Go.Shelf
set_option linter.unusedVariables false

/-- a table of the name t -/
def TabAt (w : World) (g : Nat) (z : Int) (fs : List Rat) : Prop:=∃ b off c,w.cell? ⟨g,0,none⟩ = some (.string ⟨#[116]⟩)∧w.cell? ⟨g,1,none⟩ = some (.int .i64 z)∧w.cell? ⟨g,2,none⟩ = some (.slice (some ⟨b,off,none⟩) fs.length c)∧FracsAt w (.slice (some ⟨b,off,none⟩) fs.length c) fs
theorem TabAt.but {w w' : World} {g : Nat} {z : Int} {fs : List Rat} (h : TabAt w g z fs) (hb : But [] w w') : TabAt w' g z fs:=by
 obtain ⟨b,off,c,c0,c1,c2,hf⟩:=h
 exact ⟨b,off,c,hb.cell_some c0 (by simp),hb.cell_some c1 (by simp),hb.cell_some c2 (by simp),hf.but hb⟩
set_option maxHeartbeats 8000000 in
set_option maxRecDepth 100000 in
theorem tabAges_any (g : Nat) (z : Int) (fs : List Rat) (w : World) (h : TabAt w g z fs) (h0 : 0 ≤ z) (h1 : z ≤ 1000) (hn : fs.length ≤ 1000) :
  Calls Tryz.prog 21 #[.pointer (some ⟨g,0,none⟩)] w fun e w' => e = .returned (.tuple #[.int .i64 z,.int .i64 (z + (fs.length : Int) - 1)])∧But [] w w':=by
 obtain ⟨b,off,c,c0,c1,c2,-⟩:=h
 generalize fs.length = n at *
 obtain ⟨t,ht⟩ : ∃ t,t = z + (n : Int) - 1:=⟨_,rfl⟩
 rw [← ht]
 go_enter Tryz.func21,Tryz.ntmps21
 go_wp2
 refine ages_region1 1 _ _ w g z (some ⟨b,off,none⟩) n c (z + (n : Int)) t (by simp) (by simp [Act.eval]) c1 c2 rfl ⟨by omega,by omega⟩ ht.symm ⟨by omega,by omega⟩ ?_
 intro w1 hb1
 simp only [putted,List.foldl_cons,List.foldl_nil,Act.put,List.setIfInBounds_toArray,List.set_cons_zero,List.set_cons_succ]
 have B1:=hide hb1
 clear hb1 c0 c1 c2
 go_wp2
 exact bodyPost_ret (v:=.tuple #[.int .i64 z,.int .i64 t]) (by simp [results,Tryz.results21,go_sem]) rfl ⟨rfl,unhide B1⟩
set_option maxHeartbeats 8000000 in
set_option maxRecDepth 100000 in
theorem tabStays_any (g : Nat) (z y : Int) (fs : List Rat) (m : Nat) (w : World) (h : TabAt w g z fs) (h0 : 0 ≤ z) (h1 : z ≤ 1000) (hn : fs.length ≤ 1000) (hm : m < fs.length) (hy : y - z = (m : Int)) (lf : ∀ f ∈ fs,Len f 1) :
  Calls Tryz.prog 23 #[.pointer (some ⟨g,0,none⟩),.int .i64 y] w fun e w' => ∃ v,e = .returned v∧FracAt w' v (1 - fs[m]?.getD 0)∧But [] w w':=by
 obtain ⟨b,off,c,c0,c1,c2,hf⟩:=h
 obtain ⟨s1,x1,y1,p1,hp,hfr⟩:=hf.get m hm
 obtain ⟨r,p,FW,CW⟩:=whole_at 1 (by omega) (by omega) w
 have lm : Len (fs[m]?.getD 0) 1:=by rw [List.getElem?_eq_getElem hm]; exact lf _ (List.getElem_mem hm)
 have l1 : Len (((1 : Int) : Int) : Rat) 1:=len_of (m:=1) (n:=1) (by decide) (by decide) 1 (by omega) (by omega)
 obtain ⟨f,hff⟩ : ∃ f,f = (((1 : Int) : Int) : Rat) - fs[m]?.getD 0:=⟨_,rfl⟩
 have hfg : (1 : Rat) - fs[m]?.getD 0 = f:=by rw [hff]; rfl
 rw [hfg]
 have SU:=hide (fun W (hb : But [] w W) => fracSub_any _ _ _ _ W (FW W) (hfr.but hb) (l1.mono (by omega)) (lm.mono (by omega)))
 rw [← hff] at SU
 have HCW:=hide CW
 have HP:=hide hp
 clear hf hfr FW CW lm l1 hff hfg hp lf
 generalize fs.length = n at *
 obtain ⟨A0,hA0⟩ : ∃ A0,A0 = w.alloc (.cells #[.bool false,.int .u64 0,.int .u64 0,.pointer none] 36):=⟨_,rfl⟩
 have bA0 : But [] w A0:=by rw [hA0]; exact (But.refl _ _).alloc _
 have XR : Hid (BoxAt A0 w.heap.size 0):=by
  rw [hA0]
  exact BoxAt.new w false 0 0 none 0 36 (zero_at _)
 have d1:=bA0.cell_some c1 (by simp)
 have d2:=bA0.cell_some c2 (by simp)
 have dp:=hide ((unhide HP).but bA0 (by simp))
 have BW:=hide bA0
 clear bA0 c0 c1 c2
 go_enter Tryz.func23,Tryz.ntmps23
 go_wp2
 rw [← hA0]
 clear hA0
 generalize hg1 : w.heap.size = g1 at *
 have HG1 : Hid (w.heap.size ≤ g1):=Nat.le_of_eq hg1
 clear hg1
 obtain ⟨⟨t3,a3,b3,q3,cc,-⟩,z3⟩:=unhide XR
 refine stays_region1 1 _ _ A0 g y z m b off n c r p s1 x1 y1 p1 f g1 (by simp) (by simp [Act.eval]) cc z3 (by simp [Act.eval]) (by simp [Act.eval]) hm (by omega) hy ⟨by omega,by omega⟩ d1 d2 (unhide dp) (unhide HCW) (fun W hb => unhide SU W ((unhide BW).trans' hb)) ?_
 intro w1 s2 x2 y2 p2 hb1 hf1
 simp only [putted,List.foldl_cons,List.foldl_nil,Act.put,List.setIfInBounds_toArray,List.set_cons_zero,List.set_cons_succ]
 have B1:=hide ((unhide BW).trans' hb1)
 have P2:=hide (cc.but hb1 (by simp))
 have HF1:=hide hf1
 clear hb1 hf1 BW XR SU HCW cc z3 d1 d2 dp HP
 have hP:=put4_but w1 g1 s2 x2 y2 p2
 obtain ⟨m0,m1,m2,m3⟩:=put4_p4 w1 g1 s2 x2 y2 p2 (unhide P2)
 have hF : But [] w (put4 w1 g1 s2 x2 y2 p2):=(unhide B1).trans hP (fun x hx => by simp at hx; subst hx; exact .inr (unhide HG1))
 have hff:=(unhide HF1).over (unhide P2).1 hP
 generalize put4 w1 g1 s2 x2 y2 p2 = F at *
 clear hP
 go_wp2
 exact bodyPost_ret (v:=.agg #[.bool s2,.int .u64 x2,.int .u64 y2,.pointer p2]) (by simp [results,Tryz.results23,go_sem,m0,m1,m2,m3]) rfl ⟨_,rfl,hff,hF⟩
end Go.Proofs.YtndcigdphgojpaaGreatDoor

namespace Go.Proofs.YtndcigdphgojpaaGreatDoor
open Go.RowKit Go.Shelf
set_option linter.unusedVariables false

/-- rates from 0 to 1, the last one, and no other, 1 -/
def LastOk (fs : List Rat) : Prop:=(∀ i f,i + 1 < fs.length→fs[i]? = some f→0 ≤ f.num∧f.num < (f.den : Int))∧∀ f,fs[fs.length - 1]? = some f→f.num = (f.den : Int)
theorem cmp_one (f : Rat) : f.num * ((((1 : Int) : Int) : Rat).den : Int) = f.num∧(((1 : Int) : Int) : Rat).num * (f.den : Int) = (f.den : Int):=by
 constructor
 ·show f.num * 1 = _; omega
 ·show 1 * (f.den : Int) = _; omega
set_option maxHeartbeats 16000000 in
set_option maxRecDepth 100000 in
theorem endAtLast_any (v : Value) (fs : List Rat) (w : World) (hv : FracsAt w v fs) (h0 : 0 < fs.length) (hn : fs.length ≤ 60) (lf : ∀ f ∈ fs,Len f 1) :
  Calls Tryz.prog 33 #[v] w fun e w' => ∃ bb,e = .returned (.bool bb)∧(bb = true ↔ LastOk fs)∧But [] w w':=by
 obtain ⟨q,cap,rfl,hcap,-⟩:=id hv
 obtain ⟨n,hN⟩ : ∃ n,n = fs.length:=⟨_,rfl⟩
 rw [← hN] at hn hcap h0 ⊢
 rw [← hN] at hv
 obtain ⟨m,hm⟩ : ∃ m,n = m + 1:=⟨n - 1,by omega⟩
 obtain ⟨rb,roff,rfl⟩ : ∃ b off,q = some ⟨b,off,none⟩:=by
  rcases hv.open with ⟨er,-⟩ | ⟨-,b,off,c2,er,-,-⟩
  ·rw [er] at hN; simp at hN; omega
  ·simp only [Value.slice.injEq] at er
   exact ⟨b,off,er.1⟩
 obtain ⟨r,p,FW,CW⟩:=whole_at 1 (by omega) (by omega) w
 have HCW:=hide CW
 have HFW:=hide FW
 have l1 : Len (((1 : Int) : Int) : Rat) 1:=len_of (m:=1) (n:=1) (by decide) (by decide) 1 (by omega) (by omega)
 have SG : Hid (∀ W v f,FracAt W v f→Calls Tryz.prog 42 #[v] W fun e w' => e = .returned (.int .i64 f.num.sign)∧But [] W w'):=fun W v f h => fracSign_any v f W h
 have CM : Hid (∀ W va vb f,f ∈ fs→FracAt W va f→FracAt W vb (((1 : Int) : Int) : Rat)→Calls Tryz.prog 24 #[va,vb] W fun e w' => e = .returned (.int .i64 (cmpZ f.num (f.den : Int)))∧But [] W w'):=fun W va vb f hf h1 h2 => by
  refine fracCmp_any va vb f _ W h1 h2 ((lf f hf).mono (by omega)) (l1.mono (by omega)) _ ?_
  show _ = cmpZ _ _
  rw [(cmp_one f).1,(cmp_one f).2]
 have HV:=hide hv
 have HN:=hide hN
 have HM:=hide hm
 clear hv lf FW CW l1 hN
 subst hm
 go_enter Tryz.func33,Tryz.ntmps33
 go_wp2_with fail
 refine (unhide HCW _).mono ?_
 rintro e w1 ⟨rfl,hb1⟩
 have x3:=BoxAt.new w1 r p 0 none ((1 : Int) : Rat) 36 (unhide HFW w1)
 have bA : But [] w1 (w1.alloc (.cells #[.bool r,.int .u64 p,.int .u64 0,.pointer none] 36)):=(But.refl _ _).alloc _
 have B1:=hide (hb1.trans' bA)
 have X3:=hide x3
 have S1 : Hid (w.heap.size ≤ w1.heap.size):=hb1.size
 clear hb1 x3 bA HCW
 go_wp2
 generalize w1.alloc (.cells #[.bool r,.int .u64 p,.int .u64 0,.pointer none] 36) = V1 at *
 generalize hg3 : w1.heap.size = g3 at *
 clear hg3
 go_loopw [15] (fun iv wr => ∃ k : Nat,k ≤ m∧iv = .int .i64 (k : Int)∧Hid (∀ i f,i < k→fs[i]? = some f→0 ≤ f.num∧f.num < (f.den : Int))∧Hid (BoxAt wr g3 ((1 : Int) : Rat))∧Hid (But [] w wr)) (fun iv _ => m - (intOf iv).toNat)
 case atStart => exact ⟨0,Nat.zero_le _,rfl,fun i f hi => by omega,unhide X3,unhide B1⟩
 case round =>
  obtain ⟨k,hk,rfl,HK,HX,HB⟩:=hrel
  rename World => wr
  clear X3 B1
  by_cases hlt : k < m
  ·have hkr : k < fs.length:=by have:=unhide HN; omega
   have hfs:=(unhide HV).but (unhide HB)
   obtain ⟨sr,xr,yr,pr,⟨r0,r1,r2,r3⟩,hfr⟩:=hfs.get k (by omega)
   have hge : fs[k]? = some fs[k]:=List.getElem?_eq_getElem hkr
   rw [hge,Option.getD_some] at hfr
   have hmem : fs[k] ∈ fs:=List.getElem_mem hkr
   obtain ⟨f,hf⟩ : ∃ f,f = fs[k]:=⟨_,rfl⟩
   rw [← hf] at hfr hmem hge
   have bA : But [] wr (wr.alloc (.cells #[.bool sr,.int .u64 xr,.int .u64 yr,.pointer pr] 36)):=(But.refl _ _).alloc _
   have x6:=BoxAt.new wr sr xr yr pr _ 36 hfr
   have X6:=hide x6
   have SG1:=hide (unhide SG _ _ f (hfr.but bA))
   have BA:=hide bA
   have CM1:=hide (fun W va vb (h1 : FracAt W va f) (h2 : FracAt W vb (((1 : Int) : Int) : Rat)) => unhide CM W va vb f hmem h1 h2)
   have HGE:=hide hge
   clear hfs hfr hmem hf bA x6 hge
   by_cases hneg : f.num < 0
   ·rw [Int.sign_eq_neg_one_of_neg hneg] at SG1
    have NO : Hid (¬ LastOk fs):=fun h => by
     have:=(h.1 k f (by have:=unhide HN; omega) (unhide HGE)).1
     omega
    go_wp2_with fail
    refine (unhide SG1).mono ?_
    rintro e w2 ⟨rfl,hb2⟩
    have B2:=hide (((unhide HB).trans' (unhide BA)).trans' hb2)
    clear hb2
    go_wp2
    go_ret
    exact ⟨false,rfl,⟨fun h => absurd h (by simp),fun h => absurd h (unhide NO)⟩,unhide B2⟩
   ·have hsg : 0 ≤ f.num.sign:=by
     rcases Int.lt_trichotomy f.num 0 with h | h | h
     ·omega
     ·rw [h]; decide
     ·rw [Int.sign_eq_one_of_pos h]; decide
    obtain ⟨sg,hsgn⟩ : ∃ sg,sg = f.num.sign:=⟨_,rfl⟩
    rw [← hsgn] at SG1 hsg
    clear hsgn
    have g1 : ¬ sg < 0:=by omega
    have g2 : decide (sg < 0) = false:=decide_eq_false g1
    go_wp2_with fail
    refine (unhide SG1).mono ?_
    rintro e w2 ⟨rfl,hb2⟩
    have B01:=hide ((unhide BA).trans' hb2)
    have B2:=hide ((unhide HB).trans' (unhide B01))
    have X62:=hide ((unhide X6).but hb2)
    have X32:=hide ((unhide HX).but (unhide B01))
    clear hb2 SG1 X6 r0 r1 r2 r3 BA B01
    generalize wr.heap.size = g6 at *
    obtain ⟨⟨t3,a3,b3,q3,⟨c0,c1,c2,c3⟩,hf3⟩,-⟩:=unhide X32
    obtain ⟨⟨t6,a6,b6,q6,⟨d0,d1,d2,d3⟩,hf6⟩,-⟩:=unhide X62
    have CM2:=hide (unhide CM1 w2 _ _ hf6 hf3)
    clear hf3 hf6 CM1 X62
    by_cases hge2 : (f.den : Int) ≤ f.num
    ·have NO : Hid (¬ LastOk fs):=fun h => by
      have:=(h.1 k f (by have:=unhide HN; omega) (unhide HGE)).2
      omega
     have hc : 0 ≤ cmpZ f.num (f.den : Int):=by unfold cmpZ; rw [if_neg (by omega)]; split <;> omega
     generalize cmpZ f.num (f.den : Int) = cz at *
     have d9 : decide (0 ≤ cz) = true:=decide_eq_true hc
     go_wp2_with fail
     refine (unhide CM2).mono ?_
     rintro e w3 ⟨rfl,hb3⟩
     have B3:=hide ((unhide B2).trans' hb3)
     clear hb3
     go_wp2
     go_ret
     exact ⟨false,rfl,⟨fun h => absurd h (by simp),fun h => absurd h (unhide NO)⟩,unhide B3⟩
    ·have hc : ¬ 0 ≤ cmpZ f.num (f.den : Int):=by rw [cmpZ_lt (by omega)]; decide
     have NX : Hid (∀ i f,i < k + 1→fs[i]? = some f→0 ≤ f.num∧f.num < (f.den : Int)):=fun i f' hi hf' => by
      rcases Nat.lt_or_ge i k with h | h
      ·exact unhide HK i f' h hf'
      ·obtain rfl : i = k:=by omega
       obtain rfl:=Option.some.inj ((unhide HGE).symm.trans hf')
       exact ⟨by omega,by omega⟩
     generalize cmpZ f.num (f.den : Int) = cz at *
     have d9 : decide (0 ≤ cz) = false:=decide_eq_false hc
     go_wp2_with fail
     refine (unhide CM2).mono ?_
     rintro e w3 ⟨rfl,hb3⟩
     have B3:=hide ((unhide B2).trans' hb3)
     have X33:=hide ((unhide X32).but hb3)
     clear hb3 X32
     go_wp2
     exact ⟨⟨k + 1,by omega,by go_num,unhide NX,unhide X33,unhide B3⟩,by simp [intOf] <;> omega⟩
  ·obtain rfl : k = m:=by omega
   have hkr : k < fs.length:=by have:=unhide HN; omega
   have hfs:=(unhide HV).but (unhide HB)
   obtain ⟨sr,xr,yr,pr,hp,hfr⟩:=hfs.get k (by omega)
   have hge : fs[k]? = some fs[k]:=List.getElem?_eq_getElem hkr
   rw [hge,Option.getD_some] at hfr
   have hmem : fs[k] ∈ fs:=List.getElem_mem hkr
   obtain ⟨⟨t3,a3,b3,q3,hp3,hf3⟩,-⟩:=unhide HX
   obtain ⟨f,hf⟩ : ∃ f,f = fs[k]:=⟨_,rfl⟩
   rw [← hf] at hfr hmem hge
   have CM1:=hide (fun W (hb : But [] wr W) => unhide CM W _ _ f hmem (hfr.but hb) (hf3.but hb))
   have END : Hid ((cmpZ f.num (f.den : Int) == 0) = true ↔ LastOk fs):=by
    show _ ↔ _
    have e0 : (cmpZ f.num (f.den : Int) == 0) = true ↔ f.num = (f.den : Int):=by
     rw [beq_iff_eq]
     unfold cmpZ
     constructor
     ·intro h
      split at h
      ·omega
      ·split at h
       ·assumption
       ·omega
     ·intro h
      rw [if_neg (by omega),if_pos h]
    rw [e0]
    have hl : fs.length - 1 = k:=by have:=unhide HN; omega
    constructor
    ·intro h
     exact ⟨fun i f' hi hf' => unhide HK i f' (by omega) hf',fun f' hf' => by rw [hl] at hf'; obtain rfl:=Option.some.inj (hge.symm.trans hf'); exact h⟩
    ·intro h
     exact h.2 f (by rw [hl]; exact hge)
   have HP:=hide hp
   have HP3:=hide hp3
   clear hfs hfr hf3 hge hmem hf hp hp3 CM SG
   generalize cmpZ f.num (f.den : Int) = cz at *
   go_wp2
   refine last_region8 8 _ _ wr rb roff (k + 1) cap k g3 sr xr yr pr t3 a3 b3 q3 cz (cz == 0) (by simp) (by simp [Act.eval]) (by simp [Act.eval]) (by simp [Act.eval]) (by omega) (by omega) (unhide HP) (unhide HP3) rfl (unhide CM1) ?_
   intro w3 hb3
   simp only [putted,List.foldl_cons,List.foldl_nil,Act.put,List.setIfInBounds_toArray,List.set_cons_zero,List.set_cons_succ]
   have B3:=hide ((unhide HB).trans' hb3)
   clear hb3 CM1
   go_wp2
   exact bodyPost_ret (v:=.bool (cz == 0)) (by simp [results,Tryz.results33,go_sem]) rfl ⟨_,rfl,unhide END,unhide B3⟩
end Go.Proofs.YtndcigdphgojpaaGreatDoor
