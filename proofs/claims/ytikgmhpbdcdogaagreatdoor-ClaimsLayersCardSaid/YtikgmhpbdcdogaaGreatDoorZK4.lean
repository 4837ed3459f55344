/- The least number by which all fractions of some lists become whole, as the Go text of package whole finds it. -/
import Derived.Test.YtikgmhpbdcdogaaGreatDoorZK1
import Derived.Test.YtikgmhpbdcdogaaGreatDoorZK3
namespace Go.Proofs.YtikgmhpbdcdogaaGreatDoor
open Go.RowKit

/-- the number so far, times the lower number of what it makes of the next fraction -/
def comStep (U : Nat) (f : Rat) : Nat:=U * (f * (((U : Nat) : Int) : Rat)).den
def comN (U : Nat) (fs : List Rat) : Nat:=fs.foldl comStep U
theorem comN_append (U : Nat) (xs ys : List Rat) : comN U (xs ++ ys) = comN (comN U xs) ys:=List.foldl_append
theorem comN_take (U : Nat) (fs : List Rat) (k : Nat) (hk : k < fs.length) : comN U (fs.take (k + 1)) = comStep (comN U (fs.take k)) (fs[k]?.getD 0):=by
 rw [List.take_add_one,List.getElem?_eq_getElem hk,comN_append]
 rfl
theorem times_den (f : Rat) (U : Nat) : (f * (((U : Nat) : Int) : Rat)).den ∣ f.den:=by
 have hc:=cross_mul f (((U : Nat) : Int) : Rat)
 obtain ⟨e1,e2⟩:=int_parts (U : Int)
 rw [e1,e2,Nat.mul_one] at hc
 have hr : Nat.Coprime (f * (((U : Nat) : Int) : Rat)).num.natAbs (f * (((U : Nat) : Int) : Rat)).den:=(f * (((U : Nat) : Int) : Rat)).reduced
 have h2 : (f * (((U : Nat) : Int) : Rat)).num.natAbs * f.den = (f.num * (U : Int)).natAbs * (f * (((U : Nat) : Int) : Rat)).den:=by
  have:=congrArg Int.natAbs hc
  rw [Int.natAbs_mul,Int.natAbs_mul,Int.natAbs_natCast,Int.natAbs_natCast] at this
  exact this
 exact Nat.Coprime.dvd_of_dvd_mul_left hr.symm ⟨(f.num * (U : Int)).natAbs,by rw [h2,Nat.mul_comm]⟩
theorem comN_len (c : Nat) : ∀ (fs : List Rat) (U : Nat),(∀ f ∈ fs,Len f c)→(wd 18446744073709551616 (comN U fs)).length ≤ (wd 18446744073709551616 U).length + fs.length * c
 | [],U,_ => by simp [comN]
 | f :: fs,U,h => by
  have ih:=comN_len c fs (comStep U f) (fun g hg => h g (by simp [hg]))
  have hd:=Nat.le_of_dvd (den_pos f) (times_den f U)
  have h1 : (wd 18446744073709551616 (comStep U f)).length ≤ (wd 18446744073709551616 U).length + c:=by
   unfold comStep
   exact Nat.le_trans (wd_len_mul _ _) (Nat.add_le_add_left (Nat.le_trans (wd_len_mono hd) (h f (by simp)).2) _)
  show (wd 18446744073709551616 (comN (comStep U f) fs)).length ≤ _
  rw [List.length_cons,Nat.succ_mul]
  omega
/-- lists of fractions, one behind the other -/
def ListsAt (w : World) (v : Value) (ls : List (List Rat)) : Prop:=∃ a cap,v = .slice a ls.length cap∧ls.length ≤ cap∧∀ i l,ls[i]? = some l→∃ b off u,a = some ⟨b,off,none⟩∧w.cell? ⟨b,off + i,none⟩ = some u∧FracsAt w u l
theorem ListsAt.get {w : World} {q : Option Addr} {n cap : Nat} {ls : List (List Rat)} (h : ListsAt w (.slice q n cap) ls) (i : Nat) (hi : i < ls.length) : ∃ b off u,q = some ⟨b,off,none⟩∧w.cell? ⟨b,off + i,none⟩ = some u∧FracsAt w u (ls[i]?.getD []):=by
 obtain ⟨a,cap',e,-,h⟩:=h
 simp only [Value.slice.injEq] at e
 obtain ⟨rfl,rfl,-⟩:=e
 obtain ⟨b,off,u,e1,h1,h2⟩:=h i ls[i] (List.getElem?_eq_getElem hi)
 exact ⟨b,off,u,e1,h1,by rw [List.getElem?_eq_getElem hi]; exact h2⟩

set_option maxHeartbeats 16000000 in
set_option maxRecDepth 100000 in
theorem common_any (v : Value) (ls : List (List Rat)) (w : World) (m : Int) (c : Nat) (hv : ListsAt w v ls) (hn : ls.length ≤ 100000) (hl : ∀ l ∈ ls,l.length ≤ 100000) (lf : ∀ l ∈ ls,∀ f ∈ l,Len f c) (hc : ls.flatten.length * c + 1 ≤ 200000) (hc1 : c ≤ 100000) (htab : Lib.TabIs Tryz.prog w "internal/strconv.uint64pow10" .u64 Lib.pow10Tab) (hm : w.cell? ⟨4,0,none⟩ = some (.int .i64 m)) :
  Calls Tryz.prog 77 #[v] w fun e w' => ∃ v',e = .returned v'∧FracAt w' v' (((comN 1 ls.flatten : Nat) : Int) : Rat)∧But [] w w':=by
 obtain ⟨q,cap,rfl,hcap,-⟩:=id hv
 obtain ⟨n,hN⟩ : ∃ n,n = ls.length:=⟨_,rfl⟩
 rw [← hN] at hn hcap ⊢
 rw [← hN] at hv
 have HV:=hide hv
 have HN:=hide hN
 have HTAB:=hide htab
 have HM:=hide hm
 obtain ⟨ws,wx,FW,CW⟩:=whole_is 1 (by omega) (by omega)
 have CWH:=hide CW
 have FWH:=hide FW
 clear hv hN htab hm CW FW
 have bA : But [] w (w.alloc (.cells #[.bool false,.int .u64 0,.int .u64 0,.pointer none] 29)):=(But.refl _ _).alloc _
 have xA:=BoxAt.new w false 0 0 none 0 29 (zero_at _)
 have BA:=hide bA
 have XA:=hide xA
 clear bA xA
 go_enter Tryz.func77,Tryz.ntmps77
 go_wp2_with fail
 refine (unhide CWH _).mono ?_
 rintro e w1 ⟨rfl,hb1⟩
 have B1:=hide ((unhide BA).trans' hb1)
 have X2:=hide ((unhide XA).but hb1)
 clear hb1 BA XA CWH
 go_wp2
 have x3:=BoxAt.new w1 ws wx 0 none _ 29 (unhide FWH w1)
 have bV : But [] w1 (w1.alloc (.cells #[.bool ws,.int .u64 wx,.int .u64 0,.pointer none] 29)):=(But.refl _ _).alloc _
 have X3:=hide x3
 have Y2:=hide ((unhide X2).but bV)
 have BV:=hide ((unhide B1).trans' bV)
 have o3 : w.heap.size < w1.heap.size:=(unhide X2).lt
 clear x3 bV X2 B1
 generalize hg3 : w1.heap.size = g3 at *
 generalize hg2 : w.heap.size = g2 at *
 generalize w1.alloc (.cells #[.bool ws,.int .u64 wx,.int .u64 0,.pointer none] 29) = V at *
 clear hg3
 go_loopw [11] (fun iv wr => ∃ i : Nat,i ≤ n∧iv = .int .i64 (i : Int)∧Hid (BoxAt wr g3 (((comN 1 (ls.take i).flatten : Nat) : Int) : Rat)∧BoxAt wr g2 0∧But [] w wr)) (fun iv _ => n - (intOf iv).toNat)
 case atStart => exact ⟨0,Nat.zero_le _,rfl,unhide X3,unhide Y2,unhide BV⟩
 case round =>
  obtain ⟨i,hi,rfl,HI⟩:=hrel
  rename World => wr
  clear X3 Y2 BV
  by_cases hlt : i < n
  ·have hil : i < ls.length:=by have:=unhide HN; omega
   obtain ⟨b,off,u,rfl,hcu,hfu⟩:=(unhide HV).get i hil
   replace hcu:=(unhide HI).2.2.cell_some hcu (by simp)
   obtain ⟨l,hL⟩ : ∃ l,l = ls[i]?.getD []:=⟨_,rfl⟩
   rw [← hL] at hfu
   have hmem : l ∈ ls:=by rw [hL,List.getElem?_eq_getElem hil]; exact List.getElem_mem hil
   have hll:=hl l hmem
   have LFL:=hide (lf l hmem)
   have htk : (ls.take (i + 1)).flatten = (ls.take i).flatten ++ l:=by
    have e : ls[i]? = some l:=by rw [hL,List.getElem?_eq_getElem hil]; rfl
    rw [List.take_add_one,e]
    simp
   have hln : ((ls.take i).flatten.length + l.length) * c + 1 ≤ 200000:=by
    have h1 : ((ls.take i).flatten ++ l).length ≤ ls.flatten.length:=by
     rw [← htk]
     have e : ls.flatten = (ls.take (i + 1)).flatten ++ (ls.drop (i + 1)).flatten:=by rw [← List.flatten_append,List.take_append_drop]
     rw [e,List.length_append]
     omega
    rw [List.length_append] at h1
    exact Nat.le_trans (Nat.add_le_add_right (Nat.mul_le_mul_right c h1) 1) hc
   have LFT : Hid (∀ f ∈ (ls.take i).flatten,Len f c):=fun f hf => by
    obtain ⟨l',h1,h2⟩:=List.mem_flatten.1 hf
    exact lf l' (List.mem_of_mem_take h1) f h2
   obtain ⟨qu,cu,rfl,hcu2,-⟩:=id hfu
   obtain ⟨k,hk⟩ : ∃ k,k = l.length:=⟨_,rfl⟩
   rw [← hk] at hfu hcu hcu2 hll hln
   have HFU:=hide hfu
   have HTK:=hide htk
   have HLN:=hide hln
   have HK:=hide hk
   clear hfu hL hk htk hln hmem
   go_wp2
   clear hcu
   go_loopw [17] (fun jv wx => ∃ j : Nat,j ≤ k∧jv = .int .i64 (j : Int)∧Hid (BoxAt wx g3 (((comN (comN 1 (ls.take i).flatten) (l.take j) : Nat) : Int) : Rat)∧BoxAt wx g2 0∧But [] w wx)) (fun jv _ => k - (intOf jv).toNat)
   case atStart => exact ⟨0,Nat.zero_le _,rfl,(unhide HI).1,(unhide HI).2.1,(unhide HI).2.2⟩
   case round =>
    obtain ⟨j,hj,rfl,HJ⟩:=hrel
    rename World => wx
    clear HI
    by_cases hjt : j < k
    ·have hjl : j < l.length:=by have:=unhide HK; omega
     have hfx:=(unhide HFU).but (unhide HJ).2.2
     rcases hfx.open with ⟨er,-⟩ | ⟨-,rb,roff,rcap2,er,-,-⟩
     ·rw [er] at hjl
      simp at hjl
     simp only [Value.slice.injEq] at er
     obtain ⟨rfl,-,rfl⟩:=er
     obtain ⟨sr,xr,yr,pr,⟨r0,r1,r2,r3⟩,hfr⟩:=hfx.get j hjt
     have HFR:=hide hfr
     clear hfx hfr
     go_wp2
     have bA : But [] wx (wx.alloc (.cells #[.bool sr,.int .u64 xr,.int .u64 yr,.pointer pr] 29)):=(But.refl _ _).alloc _
     have x7:=BoxAt.new wx sr xr yr pr _ 29 (unhide HFR)
     have D3:=hide ((unhide HJ).1.but bA)
     have D2:=hide ((unhide HJ).2.1.but bA)
     have DB:=hide ((unhide HJ).2.2.trans' bA)
     have X7:=hide x7
     clear bA x7 HFR r0 r1 r2 r3 HJ
     generalize wx.heap.size = g7 at *
     generalize wx.alloc (.cells #[.bool sr,.int .u64 xr,.int .u64 yr,.pointer pr] 29) = U at *
     obtain ⟨⟨t3,a3,b3,q3,c3,hf3⟩,z3⟩:=unhide D3
     obtain ⟨⟨t7,a7,b7,q7,c7,hf7⟩,-⟩:=unhide X7
     obtain ⟨A,hA⟩ : ∃ A,A = comN (comN 1 (ls.take i).flatten) (l.take j):=⟨_,rfl⟩
     have hstep:=comN_take (comN 1 (ls.take i).flatten) l j hjl
     rw [← hA] at hf3 hstep
     obtain ⟨f,hff⟩ : ∃ f,f = l[j]?.getD 0:=⟨_,rfl⟩
     rw [← hff] at hf7 hstep
     have lff : Len f c:=by rw [hff,List.getElem?_eq_getElem hjl]; exact unhide LFL _ (List.getElem_mem hjl)
     have lA : (wd 18446744073709551616 A).length ≤ 200000:=by
      rw [hA,← comN_append]
      refine Nat.le_trans (comN_len c _ 1 (fun g hg => ?_)) ?_
      ·rcases List.mem_append.1 hg with h1 | h1
       ·exact unhide LFT g h1
       ·exact unhide LFL g (List.mem_of_mem_take h1)
      ·have h1 : (wd 18446744073709551616 1).length ≤ 1:=wd_length_le (by omega) _ 1 (by omega)
       have h2 : ((ls.take i).flatten ++ l.take j).length * c ≤ ((ls.take i).flatten.length + k) * c:=Nat.mul_le_mul_right c (by rw [List.length_append,List.length_take]; omega)
       have:=unhide HLN
       omega
     have lu : Len (((A : Nat) : Int) : Rat) 200000:=nat_len A A (Nat.le_refl _) lA (by omega)
     have lfu : Len (f * (((A : Nat) : Int) : Rat)) 400000:=len_mul (lff.mono hc1) lu 400000 (by omega)
     have lz : Len ((((f * (((A : Nat) : Int) : Rat)).den : Nat) : Int) : Rat) 1000000:=nat_len _ _ (Nat.le_refl _) (Nat.le_trans lfu.2 (by omega)) (by omega)
     refine common_region 8 _ _ U t3 a3 b3 q3 t7 a7 b7 q7 _ _ ((((f * (((A : Nat) : Int) : Rat)).den : Nat) : Int) : Rat) g3 g7 (by simp) (by simp [Act.eval]) c3 z3 (by simp [Act.eval]) c3 c7 (fun w' hb => fracMul_any _ _ _ _ w' (hf7.but hb) (hf3.but hb) (lff.mono (by omega)) (lu.mono (by omega))) (fun w' hb v' hv' => lower_any v' _ w' m hv' lfu (TabIs.but (unhide HTAB) ((unhide DB).trans' hb)) (((unhide DB).trans' hb).cell_some (unhide HM) (by simp))) (fun w' hb v' hv' => fracMul_any _ _ _ _ w' (hf3.but hb) hv' (lu.mono (by omega)) lz) ?_
     intro w7 v3' v4' s7 x7 y7 p7 hb7 hfz
     simp only [putted,List.foldl_cons,List.foldl_nil,Act.put,List.setIfInBounds_toArray,List.set_cons_zero,List.set_cons_succ]
     have ez : (((A : Nat) : Int) : Rat) * ((((f * (((A : Nat) : Int) : Rat)).den : Nat) : Int) : Rat) = (((comStep A f : Nat) : Int) : Rat):=by unfold comStep; simp
     rw [ez,← hstep] at hfz
     have hP:=put4_but w7 g3 s7 x7 y7 p7
     have J3:=hide (((unhide D3).but hb7).put hfz)
     have J2:=hide (((unhide D2).but hb7).beside hP (by simp; omega) (fun g hg => by simp at hg; subst hg; exact ((unhide D3).but hb7).bool))
     have JB:=hide (((unhide DB).trans' hb7).trans hP (fun x hx => by simp at hx; subst hx; exact .inr (by omega)))
     generalize put4 w7 g3 s7 x7 y7 p7 = V7 at *
     clear hP hfz hb7 D3 D2 DB X7 c3 c7 hf3 hf7 z3 ez lz lfu lu lA lff hstep
     go_wp2
     exact ⟨⟨j + 1,by omega,by go_num,unhide J3,unhide J2,unhide JB⟩,by simp [intOf]; omega⟩
    ·obtain rfl : j = k:=by omega
     go_wp2
     refine ⟨⟨i + 1,by omega,by go_num,?_,(unhide HJ).2.1,(unhide HJ).2.2⟩,by simp [intOf]; omega⟩
     have hx:=(unhide HJ).1
     rw [unhide HK,List.take_length,← comN_append,← unhide HTK] at hx
     exact hx
  ·obtain rfl : i = n:=by omega
   obtain ⟨⟨⟨t6,a6,b6,q6',⟨d0,d1,d2,d3⟩,hf6⟩,z6⟩,⟨⟨t2,a2,b2,q2,⟨c0,c1,c2,c3⟩,-⟩,z2⟩,hbw⟩:=unhide HI
   rw [unhide HN,List.take_length] at hf6
   have HF6:=hide hf6
   have HBW:=hide hbw
   have P2 : Hid (P4 wr g2 t2 a2 b2 q2):=⟨c0,c1,c2,c3⟩
   clear HI hf6 hbw
   go_wp2
   have hP:=put4_but wr g2 t6 a6 b6 q6'
   obtain ⟨m0,m1,m2,m3⟩:=put4_p4 wr g2 t6 a6 b6 q6' (unhide P2)
   have hF : But [] w (put4 wr g2 t6 a6 b6 q6'):=(unhide HBW).trans hP (fun x hx => by simp at hx; subst hx; exact .inr (by omega))
   have hff:=(unhide HF6).over (unhide P2).1 hP
   change bodyPost _ _ _ _ _ (put4 wr g2 t6 a6 b6 q6')
   generalize put4 wr g2 t6 a6 b6 q6' = F at *
   exact bodyPost_ret (v:=.agg #[.bool t6,.int .u64 a6,.int .u64 b6,.pointer q6']) (by simp [results,Tryz.results77,go_sem,m0,m1,m2,m3]) rfl ⟨_,rfl,hff,hF⟩
end Go.Proofs.YtikgmhpbdcdogaaGreatDoor

namespace Go.Proofs.YtikgmhpbdcdogaaGreatDoor
open Go.RowKit

set_option maxHeartbeats 8000000 in
set_option maxRecDepth 100000 in
theorem chances_any (v : Value) (s1 : Bool) (x1 y1 : Int) (p1 : Option Addr) (fs : List Rat) (u : Rat) (w : World) (hv : FracsAt w v fs) (hu : FracAt w (.agg #[.bool s1,.int .u64 x1,.int .u64 y1,.pointer p1]) u) (hn : fs.length ≤ 100000) (lf : ∀ f ∈ fs,Len f 1000000) (lu : Len u 1000000) (hu0 : u.num ≠ 0) :
  Calls Tryz.prog 38 #[.agg #[v,.bool s1,.int .u64 x1,.int .u64 y1,.pointer p1]] w fun e w' => ∃ g,e = .returned (.slice (some ⟨g,0,none⟩) fs.length fs.length)∧Row4 w' g fs.length fs.length (fun i => fs[i]?.getD 0 / u)∧w.heap.size ≤ g∧g < w'.heap.size∧But [] w w':=by
 obtain ⟨q,cap,rfl,hcap,-⟩:=id hv
 obtain ⟨n,hN⟩ : ∃ n,n = fs.length:=⟨_,rfl⟩
 rw [← hN] at hn hcap ⊢
 rw [← hN] at hv
 have HV:=hide hv
 have HU:=hide hu
 have HN:=hide hN
 have hmk:=fun wx => run_makeF wx n (by omega)
 clear hv hu hN
 obtain ⟨A,hA⟩ : ∃ A,A = w.alloc (.cells #[.slice q n cap,.bool s1,.int .u64 x1,.int .u64 y1,.pointer p1] 78):=⟨_,rfl⟩
 have bA : But [] w A:=by rw [hA]; exact (But.refl _ _).alloc _
 have sA : A.heap.size = w.heap.size + 1:=by rw [hA]; simp
 have cA : ∀ j,A.cell? ⟨w.heap.size,j,none⟩ = (#[.slice q n cap,.bool s1,.int .u64 x1,.int .u64 y1,.pointer p1] : Array Value)[j]?:=fun j => by rw [hA]; exact World.cell?_alloc_new _ _ _ _
 obtain ⟨U,hU⟩ : ∃ U,U = (w.alloc (.cells #[.slice q n cap,.bool s1,.int .u64 x1,.int .u64 y1,.pointer p1] 78)).alloc (.cells (madeCells #[.bool false,.int .u64 0,.int .u64 0,.pointer none] (n * 4)) 29):=⟨_,rfl⟩
 have bU : But [] A U:=by rw [hU,← hA]; exact (But.refl _ _).alloc _
 have rU : Row4 U A.heap.size n 0 (fun i => fs[i]?.getD 0 / u):=by rw [hU,← hA]; exact Row4.made A n _
 have lU : A.heap.size < U.heap.size:=by rw [hU,← hA]; simp
 obtain ⟨G,hG⟩ : ∃ G,G = w.heap.size + 1:=⟨_,rfl⟩
 obtain ⟨B,hB⟩ : ∃ B,B = w.heap.size:=⟨_,rfl⟩
 have hGA : G = A.heap.size:=by omega
 have k0 : A.cell? ⟨w.heap.size,0,none⟩ = some (.slice q n cap):=cA 0
 have k1 : P4o A w.heap.size 1 s1 x1 y1 p1:=⟨cA 1,cA 2,cA 3,cA 4⟩
 have I0 : Hid (Row4 U G n 0 (fun i => fs[i]?.getD 0 / u)∧P4o U B 1 s1 x1 y1 p1∧U.cell? ⟨B,0,none⟩ = some (.slice q n cap)∧G < U.heap.size∧But [] w U) :=
  ⟨by rw [hGA]; exact rU,by rw [hB]; exact k1.but bU (by simp),by rw [hB]; exact bU.cell_some k0 (by simp),by rw [hGA]; exact lU,bA.trans' bU⟩
 have hGB : B < G:=by omega
 have hwB : w.heap.size ≤ B:=by omega
 have u0 : U.cell? ⟨B,0,none⟩ = some (.slice q n cap):=(unhide I0).2.2.1
 clear bU rU lU bA sA cA hGA hA k0 k1
 go_enter Tryz.func38,Tryz.ntmps38
 rw [hB] at u0
 rw [hU] at u0
 go_wp2
 rw [← hU]
 try rw [← hG]
 rw [← hB]
 clear hU hmk u0
 have HB:=hide hB
 have HW:=hide hwB
 clear hB hG hwB
 go_loopw [13] (fun i wr => ∃ k : Nat,k ≤ n∧i = .int .i64 (k : Int)∧Hid (Row4 wr G n k (fun i => fs[i]?.getD 0 / u)∧P4o wr B 1 s1 x1 y1 p1∧wr.cell? ⟨B,0,none⟩ = some (.slice q n cap)∧G < wr.heap.size∧But [] w wr)) (fun i _ => n - (intOf i).toNat)
 case atStart => exact ⟨0,Nat.zero_le _,rfl,unhide I0⟩
 case round =>
  obtain ⟨k,hk,rfl,HI⟩:=hrel
  rename World => wr
  clear I0
  by_cases hlt : k < n
  ·obtain ⟨hrow,hbx,-,hG2,hb⟩:=unhide HI
   have hkr : k < fs.length:=by have:=unhide HN; omega
   have hfs:=(unhide HV).but hb
   have hfu:=(unhide HU).but hb
   rcases hfs.open with ⟨er,-⟩ | ⟨-,rb,roff,rcap2,er,-,-⟩
   ·rw [er] at hkr
    simp at hkr
   simp only [Value.slice.injEq] at er
   obtain ⟨rfl,-,rfl⟩:=er
   obtain ⟨sr,xr,yr,pr,⟨r0,r1,r2,r3⟩,hfr⟩:=hfs.get k hlt
   have lrk : Len (fs[k]?.getD 0) 1000000:=by rw [List.getElem?_eq_getElem hkr]; exact lf _ (List.getElem_mem hkr)
   obtain ⟨b0,b1,b2,b3⟩:=hbx
   have MU:=hide (fun W (h : But [] wr W) => in_parts (quotient_any _ _ _ _ W (hfr.but h) (hfu.but h) lrk lu hu0))
   have BA : Hid (But [] wr (wr.alloc (.cells #[.bool sr,.int .u64 xr,.int .u64 yr,.pointer pr] 29))):=(But.refl _ _).alloc _
   have lB : B < wr.heap.size:=lt_of_cell b0
   clear hfr lrk hrow hfs hfu hb
   go_wp2_with fail
   refine (unhide MU _ (unhide BA)).mono ?_
   rintro e w3 ⟨s3,x3,y3,p3,rfl,hv3,hb3⟩
   have B3 : Hid (But [] wr w3):=(unhide BA).trans' hb3
   have HV3:=hide hv3
   have hrow3:=(unhide HI).1.but (unhide B3) hG2
   have R3:=hide hrow3
   have pf:=hrow3.loose
   obtain ⟨k0,k1,k2,k3⟩:=hrow3.blank k (Nat.le_refl _) hlt
   clear hv3 hb3 MU BA r0 r1 r2 r3 b0 b1 b2 b3 hrow3
   go_wp2
   have hS:=but_setCells w3 G [.bool s3,.int .u64 x3,.int .u64 y3,.pointer p3] (k * 4)
   have lw : w.heap.size ≤ G:=by have:=unhide HW; omega
   refine ⟨⟨k + 1,by omega,by go_num,(unhide R3).next hlt s3 x3 y3 p3 (unhide HV3),((unhide HI).2.1.but (unhide B3) (by simp)).but hS (by simp; omega),hS.cell_some ((unhide B3).cell_some (unhide HI).2.2.1 (by simp)) (by simp; omega),Nat.lt_of_lt_of_le (Nat.lt_of_lt_of_le hG2 (unhide B3).size) hS.size,((unhide HI).2.2.2.2.trans' (unhide B3)).trans hS (fun x hx => by simp at hx; subst hx; exact .inr lw)⟩,by simp [intOf]; omega⟩
  ·obtain rfl : k = n:=by omega
   go_wp2
   go_ret
   exact ⟨G,rfl,(unhide HI).1,by have:=unhide HW; omega,(unhide HI).2.2.2.1,(unhide HI).2.2.2.2⟩
end Go.Proofs.YtikgmhpbdcdogaaGreatDoor

namespace Go.Proofs.YtikgmhpbdcdogaaGreatDoor
open Go.RowKit

/-- a fraction stays where ways turn: no number and no pair of numbers lies there -/
theorem FracAt.overW {w W : World} {v : Value} {f : Rat} (h : FracAt w v f) {g : Nat} {s : Bool} (c1 : w.cell? ⟨g,1,none⟩ = some (.bool s)) (hb : But [g] w W) : FracAt W v f:=by
 rcases h with h1 | ⟨h1,b,v1,v2,h2,h3,h4,h5,h6⟩
 ·exact .inl h1
 ·have hbg : b ≠ g:=by
   rintro rfl
   obtain ⟨a,cap,rfl,-⟩:=h6
   rw [c1] at h4
   simp at h4
  exact .inr ⟨h1,b,v1,v2,h2,hb.cell_some h3 (by simpa using hbg),hb.cell_some h4 (by simpa using hbg),h5.over hb c1 (by simp),h6.over hb c1 (by simp)⟩
/-- a box for ways: its five cells are there, and may be written -/
structure WBox (w : World) (g : Nat) (v : Value) (s : Bool) (x y : Int) (p : Option Addr) : Prop where
 c0 : w.cell? ⟨g,0,none⟩ = some v
 c1 : w.cell? ⟨g,1,none⟩ = some (.bool s)
 c2 : w.cell? ⟨g,2,none⟩ = some (.int .u64 x)
 c3 : w.cell? ⟨g,3,none⟩ = some (.int .u64 y)
 c4 : w.cell? ⟨g,4,none⟩ = some (.pointer p)
 loose : ∀ j,w.frozen? ⟨g,j,none⟩ = false
theorem WBox.new (w : World) (v : Value) (s : Bool) (x y : Int) (p : Option Addr) (t : TypeId) : WBox (w.alloc (.cells #[v,.bool s,.int .u64 x,.int .u64 y,.pointer p] t)) w.heap.size v s x y p :=
 ⟨by simp,by simp,by simp,by simp,by simp,fun j => by simp⟩
theorem WBox.lt {w : World} {g : Nat} {v : Value} {s : Bool} {x y : Int} {p : Option Addr} (h : WBox w g v s x y p) : g < w.heap.size:=lt_of_cell h.c0
theorem WBox.but {w w' : World} {g : Nat} {v : Value} {s : Bool} {x y : Int} {p : Option Addr} {l : List Nat} (h : WBox w g v s x y p) (hb : But l w w') (hn : g ∉ l) : WBox w' g v s x y p :=
 ⟨hb.cell_some h.c0 hn,hb.cell_some h.c1 hn,hb.cell_some h.c2 hn,hb.cell_some h.c3 hn,hb.cell_some h.c4 hn,fun j => (hb.frozen (p:=⟨g,j,none⟩) h.lt hn).trans (h.loose j)⟩
theorem WBox.put {w : World} {g : Nat} {v : Value} {s : Bool} {x y : Int} {p : Option Addr} (h : WBox w g v s x y p) (v' : Value) (s' : Bool) (x' y' : Int) (p' : Option Addr) : WBox (w.setCells g 0 [v',.bool s',.int .u64 x',.int .u64 y',.pointer p']) g v' s' x' y' p':=by
 have some5 : ∀ k,k < 5→(w.cell? ⟨g,0 + k,none⟩).isSome = true:=fun k hk => by
  have : k = 0 ∨ k = 1 ∨ k = 2 ∨ k = 3 ∨ k = 4:=by omega
  rcases this with rfl | rfl | rfl | rfl | rfl
  ·rw [show 0 + 0 = 0 from rfl,h.c0]; rfl
  ·rw [show 0 + 1 = 1 from rfl,h.c1]; rfl
  ·rw [show 0 + 2 = 2 from rfl,h.c2]; rfl
  ·rw [show 0 + 3 = 3 from rfl,h.c3]; rfl
  ·rw [show 0 + 4 = 4 from rfl,h.c4]; rfl
 have hin : ∀ k (hk : k < 5),(w.setCells g 0 [v',.bool s',.int .u64 x',.int .u64 y',.pointer p']).cell? ⟨g,0 + k,none⟩ = some ([v',.bool s',.int .u64 x',.int .u64 y',.pointer p'][k]'hk):=fun k hk =>
  World.cell?_setCells_in g [v',.bool s',.int .u64 x',.int .u64 y',.pointer p'] 0 w (fun j hj => some5 j hj) k hk
 exact ⟨hin 0 (by omega),hin 1 (by omega),hin 2 (by omega),hin 3 (by omega),hin 4 (by omega),fun j => by rw [World.frozen?_setCells]; exact h.loose j⟩

set_option maxHeartbeats 8000000 in
set_option maxRecDepth 100000 in
theorem certain_any (n : Nat) (hn : n ≤ 1000) (w : World) :
  Calls Tryz.prog 80 #[.int .i64 (n : Int)] w fun e w' => ∃ g s x,e = .returned (.agg #[.slice (some ⟨g,0,none⟩) (n + 1) (n + 1),.bool s,.int .u64 x,.int .u64 0,.pointer none])∧(∀ W,FracAt W (.agg #[.bool s,.int .u64 x,.int .u64 0,.pointer none]) ((1 : Int) : Rat))∧RowOf w' g (n + 1) (setF (fun _ => 0) n ((1 : Int) : Rat))∧w.heap.size ≤ g∧g < w'.heap.size∧But [] w w':=by
 obtain ⟨ws,wx,FW,CW⟩:=whole_is 1 (by omega) (by omega)
 have CWH:=hide CW
 have FWH:=hide FW
 clear CW FW
 obtain ⟨t,ht⟩ : ∃ t,t = n + 1:=⟨_,rfl⟩
 have hmk:=fun wx => run_makeF wx t (by omega)
 rw [← ht]
 have ht1 : (n : Int) + 1 = (t : Int):=by omega
 have hnt : n < t:=by omega
 clear ht
 obtain ⟨A,hA⟩ : ∃ A,A = w.alloc (.cells #[.slice none 0 0,.bool false,.int .u64 0,.int .u64 0,.pointer none] 78):=⟨_,rfl⟩
 have xA : WBox A w.heap.size (.slice none 0 0) false 0 0 none:=by rw [hA]; exact WBox.new _ _ _ _ _ _ _
 have bA : But [] w A:=by rw [hA]; exact (But.refl _ _).alloc _
 have sA : A.heap.size = w.heap.size + 1:=by rw [hA]; simp
 obtain ⟨U,hU⟩ : ∃ U,U = (w.alloc (.cells #[.slice none 0 0,.bool false,.int .u64 0,.int .u64 0,.pointer none] 78)).alloc (.cells (madeCells #[.bool false,.int .u64 0,.int .u64 0,.pointer none] (t * 4)) 29):=⟨_,rfl⟩
 have bU : But [] A U:=by rw [hU,← hA]; exact (But.refl _ _).alloc _
 have rU : RowOf U (w.heap.size + 1) t (fun _ => 0):=by rw [← sA,hU,← hA]; exact RowOf.made A t
 have lU : w.heap.size + 1 < U.heap.size:=by rw [← sA,hU,← hA]; simp
 have XU:=hide (xA.but bU (by simp))
 have BU:=hide (bA.trans' bU)
 have RU:=hide rU
 clear xA bA sA bU rU hA
 go_enter Tryz.func80,Tryz.ntmps80
 go_wp2_with fail
 rw [← hU]
 refine (unhide CWH _).mono ?_
 rintro e w1 ⟨rfl,hb1⟩
 clear hU hmk
 generalize hg : w.heap.size + 1 = g at *
 generalize hb : w.heap.size = b at *
 have R1:=hide ((unhide RU).but hb1 lU)
 have X1:=hide ((unhide XU).but hb1 (by simp))
 have B1:=hide ((unhide BU).trans' hb1)
 have G1 : g < w1.heap.size:=Nat.lt_of_lt_of_le lU hb1.size
 clear hb1 RU XU BU lU
 obtain ⟨s0,x0,y0,p0,⟨k0,k1,k2,k3⟩,-⟩:=(unhide R1).told n hnt
 have pf:=(unhide R1).loose
 go_wp2_with fail
 have hS:=but_setCells w1 g [.bool ws,.int .u64 wx,.int .u64 0,.pointer none] (n * 4)
 have R2:=hide ((unhide R1).set hnt ws wx 0 none _ (unhide FWH w1))
 have X2:=hide ((unhide X1).but hS (by simp; omega))
 have B2:=hide ((unhide B1).trans hS (fun x hx => by simp at hx; subst hx; exact .inr (by omega)))
 have G2 : g < (w1.setCells g (n * 4) [.bool ws,.int .u64 wx,.int .u64 0,.pointer none]).heap.size:=Nat.lt_of_lt_of_le G1 hS.size
 change Calls _ _ _ (w1.setCells g (n * 4) [.bool ws,.int .u64 wx,.int .u64 0,.pointer none]) _
 generalize w1.setCells g (n * 4) [.bool ws,.int .u64 wx,.int .u64 0,.pointer none] = V at *
 clear hS R1 X1 B1 k0 k1 k2 k3 pf
 refine (unhide CWH _).mono ?_
 rintro e w2 ⟨rfl,hb2⟩
 have R3:=hide ((unhide R2).but hb2 G2)
 have X3:=hide ((unhide X2).but hb2 (by simp))
 have B3:=hide ((unhide B2).trans' hb2)
 have G3 : g < w2.heap.size:=Nat.lt_of_lt_of_le G2 hb2.size
 clear hb2 R2 X2 B2 G2 CWH
 obtain ⟨d0,d1,d2,d3,d4,dz⟩:=id (unhide X3)
 go_wp2
 have hS:=but_setCells w2 b [.slice (some ⟨g,0,none⟩) t t,.bool ws,.int .u64 wx,.int .u64 0,.pointer none] 0
 obtain ⟨m0,m1,m2,m3,m4,-⟩:=(unhide X3).put (.slice (some ⟨g,0,none⟩) t t) ws wx 0 none
 have hF : But [] w (w2.setCells b 0 [.slice (some ⟨g,0,none⟩) t t,.bool ws,.int .u64 wx,.int .u64 0,.pointer none]):=(unhide B3).trans hS (fun x hx => by simp at hx; subst hx; exact .inr (by omega))
 have hR : RowOf (w2.setCells b 0 [.slice (some ⟨g,0,none⟩) t t,.bool ws,.int .u64 wx,.int .u64 0,.pointer none]) g t (setF (fun _ => 0) n ((1 : Int) : Rat)):=by
  refine ⟨fun j hj => ?_,fun o => by rw [World.frozen?_setCells]; exact (unhide R3).loose o⟩
  obtain ⟨s5,x5,y5,p5,e5,f5⟩:=(unhide R3).told j hj
  exact ⟨s5,x5,y5,p5,e5.but hS (by simp; omega),f5.overW d1 hS⟩
 have hG : g < (w2.setCells b 0 [.slice (some ⟨g,0,none⟩) t t,.bool ws,.int .u64 wx,.int .u64 0,.pointer none]).heap.size:=Nat.lt_of_lt_of_le G3 hS.size
 change bodyPost _ _ _ _ _ (w2.setCells b 0 [.slice (some ⟨g,0,none⟩) t t,.bool ws,.int .u64 wx,.int .u64 0,.pointer none])
 generalize w2.setCells b 0 [.slice (some ⟨g,0,none⟩) t t,.bool ws,.int .u64 wx,.int .u64 0,.pointer none] = F at *
 exact bodyPost_ret (v:=.agg #[.slice (some ⟨g,0,none⟩) t t,.bool ws,.int .u64 wx,.int .u64 0,.pointer none]) (by simp [results,Tryz.results80,go_sem,m0,m1,m2,m3,m4]) rfl ⟨g,ws,wx,rfl,unhide FWH,hR,by omega,hG,hF⟩
end Go.Proofs.YtikgmhpbdcdogaaGreatDoor

namespace Go.Proofs.YtikgmhpbdcdogaaGreatDoor
open Go.RowKit

/-- a row of fractions, laid since -/
def TimesAt (B n : Nat) (F : Nat→Rat) (w : World) (v : Value) : Prop:=∃ g,v = .slice (some ⟨g,0,none⟩) n n∧Row4 w g n n F∧B ≤ g∧g < w.heap.size
theorem TimesAt.but {B n : Nat} {F : Nat→Rat} {w w' : World} {v : Value} (h : TimesAt B n F w v) (hb : But [] w w') : TimesAt B n F w' v:=by
 obtain ⟨g,e,h1,h2,h3⟩:=h
 exact ⟨g,e,h1.but hb h3,h2,Nat.lt_of_lt_of_le h3 hb.size⟩
def BuiltAt (B n : Nat) (F : Nat→Rat) (s1 : Bool) (x1 y1 : Int) (p1 : Option Addr) (w : World) (v : Value) : Prop:=∃ u,v = .agg #[u,.bool s1,.int .u64 x1,.int .u64 y1,.pointer p1]∧TimesAt B n F w u
theorem BuiltAt.but {B n : Nat} {F : Nat→Rat} {s1 : Bool} {x1 y1 : Int} {p1 : Option Addr} {w w' : World} {v : Value} (h : BuiltAt B n F s1 x1 y1 p1 w v) (hb : But [] w w') : BuiltAt B n F s1 x1 y1 p1 w' v:=by
 obtain ⟨u,e,h1⟩:=h
 exact ⟨u,e,h1.but hb⟩
theorem run_timesK (a : Act) (w : World) (d t1 t2 : Nat) (u : TypeId) (ps : String) (ed : Array Edge) (gd : Option (Nat × Bool)) (x1 x2 : Value) (h1 : a.eval (.tmp t1) = x1) (h2 : a.eval (.tmp t2) = x2) :
  (execOp a.eval { dst:=some d,op:=Op.call { callee:=Callee.value (Operand.func 78),args:=#[Operand.tmp t1,Operand.tmp t2],argTypes:=#[33,29] },type:=u,pos:=ps,after:=ed,guard:=gd }).run Tryz.prog w = .ok (.enter 78 #[x1,x2]) w:=by
 unfold execOp
 go_simp
 rw [← h1,← h2]
 simp [Act.eval]
theorem run_buildK (a : Act) (w : World) (d t1 t2 : Nat) (u : TypeId) (ps : String) (ed : Array Edge) (gd : Option (Nat × Bool)) (g n : Nat) (s1 : Bool) (x1 y1 : Int) (p1 : Option Addr) (h1 : a.eval (.tmp t1) = .slice (some ⟨g,0,none⟩) n n) (h2 : a.eval (.tmp t2) = .agg #[.bool s1,.int .u64 x1,.int .u64 y1,.pointer p1]) :
  (execOp a.eval { dst:=some d,op:=Op.build 78 #[(0,Operand.tmp t1),(1,Operand.tmp t2)],type:=u,pos:=ps,after:=ed,guard:=gd }).run Tryz.prog w = .ok (.value (.agg #[.slice (some ⟨g,0,none⟩) n n,.bool s1,.int .u64 x1,.int .u64 y1,.pointer p1])) w:=by
 have h1' : a.tmps[t1]?.getD undef = .slice (some ⟨g,0,none⟩) n n:=by rw [← Array.getD_eq_getD_getElem?]; exact h1
 have h2' : a.tmps[t2]?.getD undef = .agg #[.bool s1,.int .u64 x1,.int .u64 y1,.pointer p1]:=by rw [← Array.getD_eq_getD_getElem?]; exact h2
 unfold execOp
 simp only [List.map_toArray,List.map_cons,List.map_nil,h1,h2]
 go_simp
theorem run_storeW (a : Act) (w : World) (t1 t2 : Nat) (u : TypeId) (ps : String) (ed : Array Edge) (gb g n : Nat) (s1 : Bool) (x1 y1 : Int) (p1 : Option Addr) {vb : Value} {sb : Bool} {xb yb : Int} {pb : Option Addr} (h1 : a.eval (.tmp t1) = .pointer (some ⟨gb,0,none⟩)) (h2 : a.eval (.tmp t2) = .agg #[.slice (some ⟨g,0,none⟩) n n,.bool s1,.int .u64 x1,.int .u64 y1,.pointer p1]) (hc : WBox w gb vb sb xb yb pb) :
  (execOp a.eval { dst:=none,op:=Op.store 78 (.tmp t1) (.tmp t2),type:=u,pos:=ps,after:=ed,guard:=none }).run Tryz.prog w = .ok .skip (w.setCells gb 0 [.slice (some ⟨g,0,none⟩) n n,.bool s1,.int .u64 x1,.int .u64 y1,.pointer p1]):=by
 obtain ⟨c0,c1,c2,c3,c4,fz⟩:=hc
 unfold execOp
 simp only [h1,h2]
 go_simp
 rfl
def opKg0 : Oper:={ dst:=some 7,op:=Op.move (Operand.tmp 0),type:=33,pos:= "together.go:64",after:=#[],guard:=none }
def opKg1 : Oper:={ dst:=some 8,op:=Op.load 29 (Operand.tmp 3),type:=29,pos:= "together.go:64",after:=#[],guard:=none }
def opKg2 : Oper:={ dst:=some 9,op:=Op.call { callee:=Callee.value (Operand.func 78),args:=#[Operand.tmp 7,Operand.tmp 8],argTypes:=#[33,29] },type:=33,pos:= "together.go:64",after:=#[{ on:=0,ground:=Ground.data },{ on:=1,ground:=Ground.data }],guard:=none }
def opKg3 : Oper:={ dst:=some 10,op:=Op.load 29 (Operand.tmp 3),type:=29,pos:= "together.go:64",after:=#[],guard:=none }
def opKg4 : Oper:={ dst:=some 11,op:=Op.build 78 #[(0,Operand.tmp 9),(1,Operand.tmp 10)],type:=78,pos:= "together.go:64",after:=#[{ on:=2,ground:=Ground.data },{ on:=3,ground:=Ground.data }],guard:=none }
def opKg5 : Oper:={ dst:=none,op:=Op.store 78 (Operand.tmp 2) (Operand.tmp 11),type:=0,pos:= "together.go:64",after:=#[{ on:=4,ground:=Ground.data },{ on:=2,ground:=Ground.chain },{ on:=0,ground:=Ground.phase },{ on:=1,ground:=Ground.phase },{ on:=2,ground:=Ground.phase },{ on:=3,ground:=Ground.phase },{ on:=4,ground:=Ground.phase }],guard:=none }
def opKgs : Array Oper:=#[opKg0,opKg1,opKg2,opKg3,opKg4,opKg5]
def opKgT (i : Nat) : Nat:=match i with
 | 0 => 7
 | 1 => 8
 | 2 => 9
 | 3 => 10
 | _ => 11
/-- what each operation's value is -/
def opKgC (B n : Nat) (F : Nat→Rat) (s1 : Bool) (x1 y1 : Int) (p1 : Option Addr) (vl : Value) (i : Nat) (w : World) (v : Value) : Prop:=match i with
 | 0 => v = vl
 | 1 => v = .agg #[.bool s1,.int .u64 x1,.int .u64 y1,.pointer p1]
 | 2 => TimesAt B n F w v
 | 3 => v = .agg #[.bool s1,.int .u64 x1,.int .u64 y1,.pointer p1]
 | _ => BuiltAt B n F s1 x1 y1 p1 w v
theorem opKgC_but {B n : Nat} {F : Nat→Rat} {s1 : Bool} {x1 y1 : Int} {p1 : Option Addr} {vl : Value} {i : Nat} {w w' : World} {v : Value} (h : opKgC B n F s1 x1 y1 p1 vl i w v) (hi : i < 5) (hb : But [] w w') : opKgC B n F s1 x1 y1 p1 vl i w' v:=by
 have : i = 0 ∨ i = 1 ∨ i = 2 ∨ i = 3 ∨ i = 4:=by omega
 rcases this with rfl | rfl | rfl | rfl | rfl
 ·exact h
 ·exact h
 ·exact TimesAt.but h hb
 ·exact h
 ·exact BuiltAt.but h hb
theorem opKgT_inj : ∀ i j,i < 5→j < 5→opKgT i = opKgT j→i = j:=fun i j hi hj => (by decide : ∀ i,i < 5→∀ j,j < 5→opKgT i = opKgT j→i = j) i hi j hj
set_option maxHeartbeats 4000000 in
set_option maxRecDepth 100000 in
theorem ways_region (id : Nat) (Q : Exit→Act→World→Prop) (base : Act) (W0 : World) (B n : Nat) (F : Nat→Rat) (s1 : Bool) (x1 y1 : Int) (p1 : Option Addr) (vl : Value) (gb g3 : Nat) {vb : Value} {sb : Bool} {xb yb : Int} {pb : Option Addr} (hs : 11 < base.tmps.size) (e0 : base.eval (.tmp 0) = vl) (e2 : base.eval (.tmp 2) = .pointer (some ⟨gb,0,none⟩)) (e3 : base.eval (.tmp 3) = .pointer (some ⟨g3,0,none⟩)) (cb : WBox W0 gb vb sb xb yb pb) (c1 : P4 W0 g3 s1 x1 y1 p1)
  (TI : ∀ w,But [] W0 w→Calls Tryz.prog 78 #[vl,.agg #[.bool s1,.int .u64 x1,.int .u64 y1,.pointer p1]] w fun e w' => ∃ v,e = .returned v∧TimesAt B n F w' v∧But [] w w')
  (hQ : ∀ w1 v2 g',But [] W0 w1→Row4 w1 g' n n F→B ≤ g'→g' < w1.heap.size→Q .normal (putted base [(7,vl),(8,.agg #[.bool s1,.int .u64 x1,.int .u64 y1,.pointer p1]),(9,v2),(10,.agg #[.bool s1,.int .u64 x1,.int .u64 y1,.pointer p1]),(11,.agg #[.slice (some ⟨g',0,none⟩) n n,.bool s1,.int .u64 x1,.int .u64 y1,.pointer p1])]) (w1.setCells gb 0 [.slice (some ⟨g',0,none⟩) n n,.bool s1,.int .u64 x1,.int .u64 y1,.pointer p1])) :
  (Code.region id opKgs true).wp Tryz.prog Q base W0:=by
 have hdr : ∀ {w},But [] W0.drew w→But [] W0 w:=fun h => (But.refl _ _).drew.trans' h
 have hT : ∀ i,i < 5→opKgT i < base.tmps.size:=fun i hi => by
  have h : opKgT i ≤ 11:=by revert i; decide
  omega
 refine region_flow (by kernel_rfl) (low_of (by kernel_rfl)) (fun i o ho => (calm_of (ops:=opKgs) (by kernel_rfl) i o ho).1)
  (fun _ w => But [] W0.drew w) (opKgC B n F s1 x1 y1 p1 vl) opKgT 5 rfl opKgT_inj hT (But.refl _ _)
  (fun i hi => ?_) ?_ (fun a w => ∃ w1 v2 g',a = putted base [(7,vl),(8,.agg #[.bool s1,.int .u64 x1,.int .u64 y1,.pointer p1]),(9,v2),(10,.agg #[.bool s1,.int .u64 x1,.int .u64 y1,.pointer p1]),(11,.agg #[.slice (some ⟨g',0,none⟩) n n,.bool s1,.int .u64 x1,.int .u64 y1,.pointer p1])]∧w = w1.setCells gb 0 [.slice (some ⟨g',0,none⟩) n n,.bool s1,.int .u64 x1,.int .u64 y1,.pointer p1]∧But [] W0 w1∧Row4 w1 g' n n F∧B ≤ g'∧g' < w1.heap.size) ?_ ?_
 ·exact dep_of (ops:=opKgs) (ps:=[(5,0),(5,1),(5,2),(5,3),(5,4)]) (by kernel_rfl) 5 i (by
   have : i = 0 ∨ i = 1 ∨ i = 2 ∨ i = 3 ∨ i = 4:=by omega
   rcases this with rfl | rfl | rfl | rfl | rfl <;> simp)
 ·intro dn i o a w K hi ho hdi hH he hdep hK
  have hD:=fun j hj => (dep_have (ps:=[(2,0),(2,1),(4,2),(4,3)]) (by kernel_rfl) ho (fun j => dn j = true∧opKgC B n F s1 x1 y1 p1 vl j w (a.eval (.tmp (opKgT j)))) hdep j hj).2
  have hk : ∀ v w',But [] w w'→opKgC B n F s1 x1 y1 p1 vl i w' v→K (a.put (some (opKgT i)) v) w':=fun v w' hb hv => hK v w' (hH.trans' hb) (fun j hj _ u hu => opKgC_but hu hj hb) hv
  have e0':=(he 0 (fun j hj e => absurd e.symm (by revert j; decide))).trans e0
  have e3':=(he 3 (fun j hj e => absurd e.symm (by revert j; decide))).trans e3
  have : i = 0 ∨ i = 1 ∨ i = 2 ∨ i = 3 ∨ i = 4:=by omega
  rcases this with rfl | rfl | rfl | rfl | rfl
  ·obtain rfl:=Option.some.inj ((show opKgs[0]? = some opKg0 from rfl).symm.trans ho)
   exact wp_value (run_mvK a w _ _ _ _ _ _ _ e0') (hk _ _ (But.refl _ _) rfl)
  ·obtain rfl:=Option.some.inj ((show opKgs[1]? = some opKg1 from rfl).symm.trans ho)
   exact wp_value (run_loadK a w _ _ _ _ _ _ g3 0 _ _ _ _ e3' (c1.but (hdr hH) (by simp))) (hk _ _ (But.refl _ _) rfl)
  ·obtain rfl:=Option.some.inj ((show opKgs[2]? = some opKg2 from rfl).symm.trans ho)
   exact wp_enter (run_timesK a w _ _ _ _ _ _ _ _ _ (hD 0 (by simp)) (hD 1 (by simp))) (R:=fun w' v => TimesAt B n F w' v∧But [] w w') (TI w (hdr hH)) (fun v w' hv => hk v w' hv.2 hv.1)
  ·obtain rfl:=Option.some.inj ((show opKgs[3]? = some opKg3 from rfl).symm.trans ho)
   exact wp_value (run_loadK a w _ _ _ _ _ _ g3 0 _ _ _ _ e3' (c1.but (hdr hH) (by simp))) (hk _ _ (But.refl _ _) rfl)
  ·obtain rfl:=Option.some.inj ((show opKgs[4]? = some opKg4 from rfl).symm.trans ho)
   have ht : TimesAt B n F w (a.eval (.tmp 9)):=hD 2 (by simp)
   have ht':=ht
   obtain ⟨g',eg,-⟩:=ht
   exact wp_value (run_buildK a w _ _ _ _ _ _ _ g' n s1 x1 y1 p1 eg (hD 3 (by simp))) (hk _ _ (But.refl _ _) ⟨_,rfl,by rw [← eg]; exact ht'⟩)
 ·intro dn o a w K ho hall h hK
  obtain rfl:=Option.some.inj ((show opKgs[5]? = some opKg5 from rfl).symm.trans ho)
  have eb':=(h.eval 2 (fun j hj e => absurd e.symm (by revert j; decide))).trans e2
  have hb : BuiltAt B n F s1 x1 y1 p1 w (a.eval (.tmp 11)):=h.has 4 (by omega) (hall 4 (by omega))
  obtain ⟨u,ev,g',rfl,hr1,hr2,hr3⟩:=hb
  have ea:=h.puts hT (fun i => match i with
   | 0 => vl
   | 1 => .agg #[.bool s1,.int .u64 x1,.int .u64 y1,.pointer p1]
   | 2 => a.eval (.tmp 9)
   | 3 => .agg #[.bool s1,.int .u64 x1,.int .u64 y1,.pointer p1]
   | _ => .agg #[.slice (some ⟨g',0,none⟩) n n,.bool s1,.int .u64 x1,.int .u64 y1,.pointer p1]) (fun i hi => by
   have hc:=h.has i hi (hall i hi)
   have : i = 0 ∨ i = 1 ∨ i = 2 ∨ i = 3 ∨ i = 4:=by omega
   rcases this with rfl | rfl | rfl | rfl | rfl
   all_goals first | exact ev | exact hc | rfl)
  exact wp_skipped (run_storeW a w _ _ _ _ _ gb g' n s1 x1 y1 p1 eb' ev (cb.but (hdr h.mem) (by simp))) (hK _ _ ⟨w,a.eval (.tmp 9),g',ea,rfl,hdr h.mem,hr1,hr2,hr3⟩)
 ·rintro a w ⟨w1,v2,g',rfl,rfl,h1,h2,h3,h4⟩
  exact hQ w1 v2 g' h1 h2 h3 h4
end Go.Proofs.YtikgmhpbdcdogaaGreatDoor
