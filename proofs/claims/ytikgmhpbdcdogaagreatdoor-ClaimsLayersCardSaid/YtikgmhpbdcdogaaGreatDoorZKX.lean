/- Layers, one upon the other, bear all together, in the mean; the worst part is no better than the mean, and than its least: the law, at every row of pairs. -/
import Derived.Test.YtikgmhpbdcdogaaGreatDoorZD1
import Derived.Test.YtikgmhpbdcdogaaGreatDoorZKG
import Derived.Test.YtikgmhpbdcdogaaGreatDoorZKW
import Derived.Test.YtikgmhpbdcdogaaGreatDoorZL1
import Derived.Test.YtikgmhpbdcdogaaGreatDoorZPK
namespace Go.Proofs.YtikgmhpbdcdogaaGreatDoor
open Go.RowKit

theorem fits_lenK {qs : List (Int × Int)} (hf : ∀ q ∈ qs,Fits q) : ∀ r ∈ qs.map qf,Len r 1:=fun r hr => by
 obtain ⟨q,hq,rfl⟩:=List.mem_map.1 hr
 obtain ⟨-,-,-,h,-⟩:=plainF_at q (hf q hq)
 exact h
theorem plainLaw_any (v : Value) (qs : List (Int × Int)) (w : World) (hq : QsAt w v qs) (hf : ∀ q ∈ qs,Fits q) (hn : qs.length ≤ 1000) :
  Calls Tryz.prog 10 #[v] w fun e w' => ∃ v',e = .returned v'∧FracsAt w' v' (qs.map qf)∧But [] w w':=by
 have FS:=hide (plainFs_any v qs w hq hf hn)
 obtain ⟨a,cap,rfl,-,-⟩:=hq
 clear hf
 go_enter Tryz.func10,Tryz.ntmps10
 go_wp2_with fail
 refine (unhide FS).mono ?_
 rintro e w1 ⟨v',vs,rfl,hh,hb⟩
 have H1:=hide hh
 have B1:=hide hb
 clear hh hb
 go_wp2
 go_ret
 exact ⟨_,rfl,(unhide H1).fracs,unhide B1⟩
theorem layers_many (a : Option Addr) (n c : Nat) (y z : Int) (q1 q2 : Int) (w : World) (hn : 40 < n) :
  Calls Tryz.prog 4 #[.slice a n c,.int .i64 y,.int .i64 z,.agg #[.int .i64 q1,.int .i64 q2]] w fun e w' => e = .returned (.bool true)∧But [] w w':=by
 go_enter Tryz.func4,Tryz.ntmps4
 go_wp2
 go_ret
 exact ⟨rfl,(But.refl _ _).alloc _⟩
set_option maxHeartbeats 32000000 in
set_option maxRecDepth 100000 in
theorem layers_few (v : Value) (qs : List (Int × Int)) (y z : Int) (hy : -9223372036854775808 ≤ y∧y < 9223372036854775808) (hz : -9223372036854775808 ≤ z∧z < 9223372036854775808) (q : Int × Int) (hq : Fits q) (mx : Int) (w : World) (hv : QsAt w v qs) (hf : ∀ q ∈ qs,Fits q) (hn : qs.length ≤ 40)
  (htab : Lib.TabIs Tryz.prog w "internal/strconv.uint64pow10" .u64 Lib.pow10Tab) (hmx : w.cell? ⟨4,0,none⟩ = some (.int .i64 mx)) (hgE : w.cell? ⟨0,0,none⟩ = some (.iface 178 (.agg #[.pointer (some ⟨7,35,none⟩)]))) :
  Calls Tryz.prog 4 #[v,.int .i64 y,.int .i64 z,.agg #[.int .i64 q.1,.int .i64 q.2]] w fun e w' => e = .returned (.bool true)∧But [] w w':=by
 have LAW:=hide (fun W (h : But [] w W) => plainLaw_any v qs W (hv.but h) hf (by omega))
 have lf:=fits_lenK hf
 obtain ⟨r,px,py,lch,FCH,PF⟩:=plainF_at q hq
 have DI:=hide (fun W (h : But [] w W) => dice_any mx W (TabIs.but htab h) (h.cell_some hmx (by simp)))
 have PY:=hide (pick_gen y 30 hy.1 hy.2 (by omega) (by omega))
 have PZ:=hide (pick_gen z 30 hz.1 hz.2 (by omega) (by omega))
 have TE:=hide (fun W (h : But [] w W) => tell_errno 2 W (h.cell_some hgE (by simp)))
 have LI : Hid (∀ f va vb W,But [] w W→FracAt W va f→FracAt W vb f→Len f 1000000→Calls Tryz.prog 18 #[va,vb] W fun e w' => e = .returned (.bool true)∧But [] W w'):=fun f va vb W hb h1 h2 hl => like_len va vb f W h1 h2 hl (TabIs.but htab hb)
 obtain ⟨fs,hfs⟩ : ∃ fs,fs = qs.map qf:=⟨_,rfl⟩
 have hln : fs.length = qs.length:=by rw [hfs]; simp
 rw [← hfs] at lf LAW
 have HFS:=hide hfs
 obtain ⟨sl,cap,rfl,hcap,-⟩:=id hv
 obtain ⟨ch,hch⟩ : ∃ ch,ch = qf q:=⟨_,rfl⟩
 rw [← hch] at lch FCH
 have HPF:=hide PF
 have HFCH:=hide FCH
 obtain ⟨ya,hya⟩ : ∃ ya : Nat,ya = ((if y < 0 then y + 18446744073709551616 else y) % 30).toNat:=⟨_,rfl⟩
 obtain ⟨za,hza⟩ : ∃ za : Nat,za = ((if z < 0 then z + 18446744073709551616 else z) % 30).toNat:=⟨_,rfl⟩
 have ya1 : ya < 30:=by
  have h1:=Int.emod_lt_of_pos (if y < 0 then y + 18446744073709551616 else y) (show (0 : Int) < 30 by omega)
  have h2:=Int.emod_nonneg (if y < 0 then y + 18446744073709551616 else y) (show (30 : Int) ≠ 0 by omega)
  omega
 have za1 : za < 30:=by
  have h1:=Int.emod_lt_of_pos (if z < 0 then z + 18446744073709551616 else z) (show (0 : Int) < 30 by omega)
  have h2:=Int.emod_nonneg (if z < 0 then z + 18446744073709551616 else z) (show (30 : Int) ≠ 0 by omega)
  omega
 rw [← hya] at PY
 rw [← hza] at PZ
 obtain ⟨q1,q2⟩:=q
 dsimp only at HPF ⊢
 have bA : But [] w (w.alloc (.cells #[.int .i64 q1,.int .i64 q2] 23)):=(But.refl _ _).alloc _
 have c7 : (w.alloc (.cells #[.int .i64 q1,.int .i64 q2] 23)).cell? ⟨w.heap.size,0,none⟩ = some (.int .i64 q1)∧(w.alloc (.cells #[.int .i64 q1,.int .i64 q2] 23)).cell? ⟨w.heap.size,1,none⟩ = some (.int .i64 q2):=⟨by simp,by simp⟩
 have C7:=hide c7
 have BA:=hide bA
 obtain ⟨n,hnq⟩ : ∃ n,n = qs.length:=⟨_,rfl⟩
 rw [← hnq] at hn hln hcap LAW
 rw [← hnq]
 clear hv hf hy hz hq htab hmx hgE PF FCH hch hya hza bA c7 hfs hnq
 go_enter Tryz.func4,Tryz.ntmps4
 go_wp2_with fail
 refine (unhide LAW _ (unhide BA)).mono ?_
 rintro e w1 ⟨x,rfl,hx,hb1⟩
 have B1:=hide ((unhide BA).trans' hb1)
 have C71:=hide (And.intro (hb1.cell_some (unhide C7).1 (by simp)) (hb1.cell_some (unhide C7).2 (by simp)))
 have HX:=hide hx
 have ME:=hide (fun W (h : But [] w1 W) => lawMean_any x fs 1 W (hx.but h) (by omega) lf (by omega))
 have g7l : w.heap.size < w1.heap.size:=by have:=hb1.size; simp at this; omega
 clear hb1 LAW BA C7
 generalize hg7 : w.heap.size = g7 at *
 by_cases hck : chkE fs = 0
 ·rcases hx.open with ⟨e0,-⟩ | ⟨hpos,b,off,cap',rfl,hcap',-⟩
  ·rw [e0] at hck
   exact absurd hck (by decide)
  obtain ⟨m,hm,h1,h2⟩:=greatest_is hck
  have L0:=hide (fun W (h : But [] w1 W) => lawLayer_ok b off cap' fs.length fs m 0 ya 1 W (hx.but h) rfl hcap' (by omega) hm h1 h2 hck (by omega) (by omega) lf (by omega))
  have L1:=hide (fun W (h : But [] w1 W) => lawLayer_ok b off cap' fs.length fs m ya za 1 W (hx.but h) rfl hcap' (by omega) hm h1 h2 hck (by omega) (by omega) lf (by omega))
  rw [show ((0 : Nat) : Int) = 0 from rfl] at L0
  have se : stopE fs ((ya : Int) + (za : Int)) = 0:=by
   unfold stopE
   rw [if_neg (by rw [hck]; simp),if_neg (by omega)]
  have ST:=hide (fun W (h : But [] w1 W) => lawStop_any _ fs 1 ((ya : Int) + (za : Int)) W (hx.but h) (by omega) lf (by omega))
  rw [se] at ST
  rw [hck] at ME
  have f0:=layer_facts fs 0 ya m hck hm h2
  have f1:=layer_facts fs ya za m hck hm h2
  have hadd:=layers_add fs ya za m hm h2
  have lrow : ∀ a b : Nat,∀ f ∈ (List.range (wi a b m + 1)).map (layF fs a b (m + 1)),Len f 100:=fun a b f hf => by
   obtain ⟨t,-,rfl⟩:=List.mem_map.1 hf
   exact (len_layF 1 fs a b lf (m + 1) (by omega) t).mono (by omega)
  have hwm : ∀ a b : Nat,wi a b m ≤ m:=fun a b => by unfold wi; omega
  have MP : Hid (∀ (a b g : Nat) (W : World),chkE ((List.range (wi a b m + 1)).map (layF fs a b (m + 1))) = 0→FracsAt W (.slice (some ⟨g,0,none⟩) (wi a b m + 1) (wi a b m + 1)) ((List.range (wi a b m + 1)).map (layF fs a b (m + 1)))→Calls Tryz.prog 14 #[.slice (some ⟨g,0,none⟩) (wi a b m + 1) (wi a b m + 1)] W fun e w' => MeanIs w' e 0 (meanR ((List.range (wi a b m + 1)).map (layF fs a b (m + 1))) (fun k => (k : Int)) (wi a b m + 1))∧But [] W w'):=fun a b g W h0 hv => by
   have h:=lawMean_any _ _ 100 W hv (by simp; have:=hwm a b; omega) (lrow a b) (Nat.le_refl _)
   rw [h0,show ((List.range (wi a b m + 1)).map (layF fs a b (m + 1))).length = wi a b m + 1 from by simp] at h
   exact h
  have lenP : ∀ a b : Nat,Len (meanR ((List.range (wi a b m + 1)).map (layF fs a b (m + 1))) (fun k => (k : Int)) (wi a b m + 1)) 10000:=fun a b => by
   refine (len_meanR 100 _ (fun k => (k : Int)) (lrow a b) (fun k hk => by simp at hk; have:=hwm a b; omega) _ (by simp)).mono ?_
   have:=Nat.mul_le_mul (show wi a b m + 1 ≤ 40 by have:=hwm a b; omega) (Nat.le_refl (100 + 2))
   omega
  have lenM : Len (meanR fs (fun k => (k : Int)) fs.length) 10000:=(len_meanR 1 fs (fun k => (k : Int)) lf (fun k hk => by omega) fs.length (Nat.le_refl _)).mono (by omega)
  have lenR : Len (meanR fs (fun k => max ((k : Int) - ((ya : Int) + (za : Int))) 0) fs.length) 10000:=(len_meanR 1 fs _ lf (fun k hk => by show (max _ _ : Int).natAbs < _; omega) fs.length (Nat.le_refl _)).mono (by omega)
  have WO:=hide (fun W (h : But [] w1 W) => lawWorst_ok b off cap' fs.length fs 1 _ ch W (hx.but h) rfl hck (unhide HFCH W) lf (by omega) (lch.mono (by omega)))
  have QU:=hide (fun W (h : But [] w1 W) => lawQuantile_ok b off cap' fs.length fs 1 _ ch W (hx.but h) rfl hck (unhide HFCH W) lf (by omega) (lch.mono (by omega)))
  have wf:=worst_facts fs ch hck
  have lenW : Len ((wsf (fun t => fs[t]?.getD 0) (((1 : Int) : Rat) - ch) ((downsL fs.length 0).map (·.1))).2 / (((1 : Int) : Rat) - ch)) 10000 ∨ ((1 : Int) : Rat) - ch = 0:=by
   by_cases hz : ((1 : Int) : Rat) - ch = 0
   ·exact .inr hz
   ·left
    have hl:=(len_wsf (fun t => fs[t]?.getD 0) (((1 : Int) : Rat) - ch) 1 3 (len_sub (len_int 1 (by decide)) lch 3 (by omega)) ((downsL fs.length 0).map (·.1)) (fun s hs => by
     obtain ⟨y,-,rfl⟩:=List.mem_map.1 hs
     refine ⟨?_,by have:=y.2; omega⟩
     show Len (fs[y.1]?.getD 0) 1
     rw [List.getElem?_eq_getElem y.2]
     exact lf _ (List.getElem_mem _))).2
    rw [List.length_map,downs_lengthL,Nat.sub_zero] at hl
    have m1 : fs.length * (fs.length * (1 + 1) + 3 + 1 + 3) ≤ 40 * 87:=Nat.mul_le_mul (by omega) (by omega)
    exact len_div hl (len_sub (len_int 1 (by decide)) lch 3 (by omega)) (fun h => hz (Rat.num_eq_zero.1 h)) 10000 (by omega)
  rw [← f0.2,← f1.2] at hadd
  have F0:=hide f0.1
  have F1:=hide f1.1
  generalize hM : meanR fs (fun k => (k : Int)) fs.length = M at *
  generalize hR : meanR fs (fun k => max ((k : Int) - ((ya : Int) + (za : Int))) 0) fs.length = R at *
  have HADD:=hide hadd
  have HWF:=hide wf
  have LENP:=hide lenP
  have LENM:=hide lenM
  have LENR:=hide lenR
  have LENW:=hide lenW
  have HHM:=hide hM
  clear hx f0 f1 hadd lrow hwm lenP lenM lenR lenW wf se hM hR h1 h2 hck
  rw [hln] at L0 L1 ST ME WO QU hm hcap' hpos HX HWF LENW
  rw [hln]
  go_wp2_with fail
  refine (unhide ME _ (But.refl _ _)).mono ?_
  rintro e w2 ⟨hmm,hb2⟩
  rcases hmm with ⟨h0,-⟩ | ⟨-,sm,xm,ym,pm,rfl,hfm⟩
  ·exact absurd rfl h0
  have T2:=hide (hb2.trans' ((But.refl _ _).alloc (.cells #[.bool sm,.int .u64 xm,.int .u64 ym,.pointer pm] 29)))
  have X10:=hide (BoxAt.new w2 sm xm ym pm _ 29 hfm)
  clear hfm hb2 ME
  go_wp2_with fail
  refine (unhide DI _ ((unhide B1).trans' (unhide T2))).mono ?_
  rintro e w3 ⟨rfl,hb3⟩
  have T3:=hide ((unhide T2).trans' hb3)
  have X103:=hide ((unhide X10).but hb3)
  clear hb3 T2 X10
  generalize w2.heap.size = g10 at *
  go_wp2_with fail
  refine (unhide PY _).mono ?_
  rintro e w4 ⟨rfl,hb4⟩
  have T4:=hide ((unhide T3).trans' hb4)
  have X104:=hide ((unhide X103).but hb4)
  clear hb4 T3 X103 PY
  go_wp2_with fail
  refine (unhide PZ _).mono ?_
  rintro e w5 ⟨rfl,hb5⟩
  have T5:=hide ((unhide T4).trans' hb5)
  have X105:=hide ((unhide X104).but hb5)
  clear hb5 T4 X104 PZ
  go_wp2_with fail
  refine (unhide L0 _ (unhide T5)).mono ?_
  rintro e w6 ⟨gp,rfl,hrp,hb6⟩
  have T6:=hide ((unhide T5).trans' hb6)
  have X106:=hide ((unhide X105).but hb6)
  have RP6:=hide hrp.fracs
  clear hb6 hrp T5 X105 L0
  go_wp2_with fail
  refine (unhide L1 _ (unhide T6)).mono ?_
  rintro e w7 ⟨gq,rfl,hrq,hb7⟩
  have T7:=hide ((unhide T6).trans' hb7)
  have X107:=hide ((unhide X106).but hb7)
  have RP7:=hide ((unhide RP6).but hb7)
  have RQ7:=hide hrq.fracs
  clear hb7 hrq T6 X106 L1 RP6
  go_wp2_with fail
  refine (unhide ST _ (unhide T7)).mono ?_
  rintro e w8 ⟨hst,hb8⟩
  rcases hst with ⟨h0,-⟩ | ⟨-,sr,xr,yr,pr,rfl,hfr⟩
  ·exact absurd rfl h0
  have T8:=hide (((unhide T7).trans' hb8).trans' ((But.refl _ _).alloc (.cells #[.bool sr,.int .u64 xr,.int .u64 yr,.pointer pr] 29)))
  have bs:=hb8.trans' ((But.refl _ _).alloc (.cells #[.bool sr,.int .u64 xr,.int .u64 yr,.pointer pr] 29))
  have X108:=hide ((unhide X107).but bs)
  have RP8:=hide ((unhide RP7).but bs)
  have RQ8:=hide ((unhide RQ7).but bs)
  have X168:=hide (BoxAt.new w8 sr xr yr pr _ 29 hfr)
  clear hb8 hfr bs T7 X107 RP7 RQ7 ST
  go_wp2_with fail
  generalize w8.heap.size = g16 at *
  generalize w8.alloc (.cells #[.bool sr,.int .u64 xr,.int .u64 yr,.pointer pr] 29) = V8 at *
  refine (unhide MP 0 ya gp _ (unhide F0) (unhide RP8)).mono ?_
  rintro e w9 ⟨hst,hb9⟩
  rcases hst with ⟨h0,-⟩ | ⟨-,su,xu,yu,pu,rfl,hfu⟩
  ·exact absurd rfl h0
  have bs:=hb9.trans' ((But.refl _ _).alloc (.cells #[.bool su,.int .u64 xu,.int .u64 yu,.pointer pu] 29))
  have T9:=hide ((unhide T8).trans' bs)
  have X109:=hide ((unhide X108).but bs)
  have X169:=hide ((unhide X168).but bs)
  have RQ9:=hide ((unhide RQ8).but bs)
  have X189:=hide (BoxAt.new w9 su xu yu pu _ 29 hfu)
  clear hb9 hfu bs T8 X108 X168 RP8 RQ8
  go_wp2_with fail
  generalize w9.heap.size = g18 at *
  generalize w9.alloc (.cells #[.bool su,.int .u64 xu,.int .u64 yu,.pointer pu] 29) = V9 at *
  refine (unhide MP ya za gq _ (unhide F1) (unhide RQ9)).mono ?_
  rintro e w10 ⟨hst,hb10⟩
  rcases hst with ⟨h0,-⟩ | ⟨-,sv,xv,yv,pv,rfl,hfv⟩
  ·exact absurd rfl h0
  have bs:=hb10.trans' ((But.refl _ _).alloc (.cells #[.bool sv,.int .u64 xv,.int .u64 yv,.pointer pv] 29))
  have T10:=hide ((unhide T9).trans' bs)
  have Y10:=hide ((unhide X109).but bs)
  have Y16:=hide ((unhide X169).but bs)
  have Y18:=hide ((unhide X189).but bs)
  have Y20:=hide (BoxAt.new w10 sv xv yv pv _ 29 hfv)
  clear hb10 hfv bs T9 X109 X169 X189 RQ9 MP F0 F1
  go_wp2
  generalize w10.heap.size = g20 at *
  generalize w10.alloc (.cells #[.bool sv,.int .u64 xv,.int .u64 yv,.pointer pv] 29) = V10 at *
  obtain ⟨⟨t1,a1,b1,q1',k1,fu⟩,-⟩:=unhide Y18
  obtain ⟨⟨t2,a2,b2,q2',k2,fv⟩,-⟩:=unhide Y20
  obtain ⟨⟨t3,a3,b3,q3',k3,fR⟩,-⟩:=unhide Y16
  obtain ⟨⟨t4,a4,b4,q4',k4,fM⟩,-⟩:=unhide Y10
  have lp0:=unhide LENP 0 ya
  have lp1:=unhide LENP ya za
  have ls:=len_add lp0 lp1 20001 (by omega)
  refine layers_region13 13 _ _ V10 t1 a1 b1 q1' t2 a2 b2 q2' t3 a3 b3 q3' t4 a4 b4 q4' _ _ R (by simp) g18 g20 g16 g10 (by simp [Act.eval]) (by simp [Act.eval]) (by simp [Act.eval]) (by simp [Act.eval]) (by simp [Act.eval]) (by simp [Act.eval]) (by simp [Act.eval]) (by simp [Act.eval]) (by simp [Act.eval]) k1 k2 k3 k4 (fun W hb => fracAdd_gen 10000 10000 (by omega) _ _ _ _ W (fu.but hb) (fv.but hb) lp0 lp1) (fun W v hb hv => fracAdd_gen 20001 10000 (by omega) _ _ _ _ W hv (fR.but hb) ls (unhide LENR)) (fun W v hb hv => unhide LI M _ _ W (((unhide B1).trans' (unhide T10)).trans' hb) (by rw [← unhide HADD]; exact hv) (fM.but hb) ((unhide LENM).mono (by omega))) ?_
  intro w11 v21 v23 hb11
  simp only [putted,List.foldl_cons,List.foldl_nil,Act.put,List.setIfInBounds_toArray,List.set_cons_zero,List.set_cons_succ]
  have T11:=hide ((unhide T10).trans' hb11)
  have Z10:=hide ((unhide Y10).but hb11)
  clear hb11 T10 Y10 Y16 Y18 Y20 fu fv fR fM k1 k2 k3 k4 lp0 lp1 ls
  have C711:=hide (And.intro ((unhide T11).cell_some (unhide C71).1 (by simp)) ((unhide T11).cell_some (unhide C71).2 (by simp)))
  obtain ⟨j0,j1⟩:=unhide C711
  go_wp2_with fail
  refine (unhide HPF _).mono ?_
  rintro e w12 ⟨rfl,hb12⟩
  have T12:=hide ((unhide T11).trans' hb12)
  have Z102:=hide ((unhide Z10).but hb12)
  clear hb12 T11 Z10 j0 j1 C711
  go_wp2_with fail
  refine (unhide WO _ (unhide T12)).mono ?_
  rintro e w13 ⟨hb13,hwo⟩
  have T13:=hide ((unhide T12).trans' hb13)
  have Z103:=hide ((unhide Z102).but hb13)
  clear hb13 T12 Z102 WO
  rcases hwo with ⟨hno,rfl⟩ | ⟨hin,sw,xw,yw,pw,rfl,hfw⟩
  ·have TEW:=hide (unhide TE _ (((unhide B1).trans' (unhide T13)).trans' ((But.refl _ _).alloc (.cells #[.bool false,.int .u64 0,.int .u64 0,.pointer none] 29))))
   have T14:=hide ((unhide T13).trans' ((But.refl _ _).alloc (.cells #[.bool false,.int .u64 0,.int .u64 0,.pointer none] 29)))
   clear hno
   go_wp2_with fail
   refine (unhide TEW).mono ?_
   rintro e w15 ⟨rfl,hb15⟩
   have T15:=hide ((unhide T14).trans' hb15)
   clear hb15
   go_wp2
   go_ret
   exact ⟨rfl,(unhide B1).trans' (unhide T15)⟩
  ·obtain ⟨wf1,wf2,wf3⟩:=unhide HWF hin.1 hin.2
   have lw:=(unhide LENW).resolve_right (fun h => by
    have h1 : ((1 : Int) : Rat) = 1:=rfl
    rw [h1] at h
    have:=hin.2
    grind)
   generalize hWV : (wsf (fun t => fs[t]?.getD 0) (((1 : Int) : Rat) - ch) ((downsL n 0).map (·.1))).2 / (((1 : Int) : Rat) - ch) = WV at *
   have X22:=hide (BoxAt.new w13 sw xw yw pw WV 29 hfw)
   have bs : But [] w13 (w13.alloc (.cells #[.bool sw,.int .u64 xw,.int .u64 yw,.pointer pw] 29)):=(But.refl _ _).alloc _
   have T14:=hide ((unhide T13).trans' bs)
   have Z104:=hide ((unhide Z103).but bs)
   have HIN:=hide hin
   have WF1:=hide wf1
   have WF2:=hide wf2
   have WF3:=hide wf3
   have LW:=hide lw
   clear hfw bs hin wf1 wf2 wf3 lw hWV T13 Z103
   obtain ⟨⟨t1,a1,b1,q1',⟨k0,k1,k2,k3⟩,fw⟩,-⟩:=unhide X22
   obtain ⟨⟨t4,a4,b4,q4',⟨l0,l1,l2,l3⟩,fM⟩,-⟩:=unhide Z104
   obtain ⟨r1,hr1⟩ : ∃ r1,r1 = cmpZ (WV.num * (M.den : Int)) (M.num * (WV.den : Int)):=⟨_,rfl⟩
   have hnl : ¬ r1 < 0:=fun h => by
    have h1:=(cmpZ_tells WV M r1 hr1).1.1 h
    have h2:=unhide WF1
    exact absurd h2 (Rat.not_le.2 h1)
   have CM:=hide (fracCmp_any _ _ WV M _ fw fM ((unhide LW).mono (by omega)) ((unhide LENM).mono (by omega)) r1 hr1)
   clear fw fM hr1
   go_wp2_with fail
   generalize w13.heap.size = g22 at *
   generalize w13.alloc (.cells #[.bool sw,.int .u64 xw,.int .u64 yw,.pointer pw] 29) = V14 at *
   refine (unhide CM).mono ?_
   rintro e w15 ⟨rfl,hb15⟩
   have T15:=hide ((unhide T14).trans' hb15)
   have Z105:=hide ((unhide Z104).but hb15)
   have X225:=hide ((unhide X22).but hb15)
   clear hb15 CM k0 k1 k2 k3 l0 l1 l2 l3 T14 Z104 X22
   have C715:=hide (And.intro ((unhide T15).cell_some (unhide C71).1 (by simp)) ((unhide T15).cell_some (unhide C71).2 (by simp)))
   obtain ⟨j0,j1⟩:=unhide C715
   go_wp2_with fail
   refine (unhide HPF _).mono ?_
   rintro e w16 ⟨rfl,hb16⟩
   have T16:=hide ((unhide T15).trans' hb16)
   have Z106:=hide ((unhide Z105).but hb16)
   have X226:=hide ((unhide X225).but hb16)
   clear hb16 T15 Z105 X225 j0 j1 C715
   go_wp2_with fail
   refine (unhide QU _ (unhide T16)).mono ?_
   rintro e w17 ⟨hb17,hqu⟩
   have T17:=hide ((unhide T16).trans' hb17)
   have Z107:=hide ((unhide Z106).but hb17)
   have X227:=hide ((unhide X226).but hb17)
   clear hb17 T16 Z106 X226 QU
   have C717:=hide (And.intro ((unhide T17).cell_some (unhide C71).1 (by simp)) ((unhide T17).cell_some (unhide C71).2 (by simp)))
   rcases hqu with ⟨hbad,rfl⟩ | ⟨hok,k,hk,rfl,hsk⟩
   ·have hz0 : ch = 0:=by
     have h:=unhide HIN
     rcases hbad with h' | h'
     ·exact Rat.le_antisymm h' h.1
     ·exact absurd h.2 (Rat.not_lt.2 (Rat.le_of_lt h'))
    have hwm:=unhide WF2 hz0
    obtain ⟨j0,j1⟩:=unhide C717
    have SG:=hide (fun W => fracSign_any _ ch W (unhide HFCH W))
    rw [hz0,show (0 : Rat).num.sign = 0 from rfl] at SG
    have HWM:=hide hwm
    clear hbad hwm hz0
    go_wp2_with fail
    refine (unhide HPF _).mono ?_
    rintro e w18 ⟨rfl,hb18⟩
    have T18:=hide ((unhide T17).trans' hb18)
    have Z108:=hide ((unhide Z107).but hb18)
    have X228:=hide ((unhide X227).but hb18)
    clear hb18 T17 Z107 X227 j0 j1 C717
    go_wp2_with fail
    refine (unhide SG _).mono ?_
    rintro e w19 ⟨rfl,hb19⟩
    have T19:=hide ((unhide T18).trans' hb19)
    obtain ⟨⟨t1,a1,b1,q1',⟨k0,k1,k2,k3⟩,fw⟩,-⟩:=(unhide X228).but hb19
    obtain ⟨⟨t4,a4,b4,q4',⟨l0,l1,l2,l3⟩,fM⟩,-⟩:=(unhide Z108).but hb19
    rw [unhide HWM] at fw
    have LK:=hide (unhide LI M _ _ w19 ((unhide B1).trans' (unhide T19)) fw fM ((unhide LENM).mono (by omega)))
    clear hb19 T18 Z108 X228 SG fw fM
    go_wp2_with fail
    refine (unhide LK).mono ?_
    rintro e w20 ⟨rfl,hb20⟩
    have T20:=hide ((unhide T19).trans' hb20)
    clear hb20
    go_wp2
    go_ret
    exact ⟨rfl,(unhide B1).trans' (unhide T20)⟩
   ·have hkw:=unhide WF3 k hk hsk
    obtain ⟨⟨t1,a1,b1,q1',kk,fw⟩,-⟩:=unhide X227
    obtain ⟨ws,wx,FW,CW⟩:=whole_is (k : Int) (by omega) (by omega)
    obtain ⟨r2,hr2⟩ : ∃ r2,r2 = cmpZ (WV.num * ((((k : Int) : Rat)).den : Int)) ((((k : Int) : Rat)).num * (WV.den : Int)):=⟨_,rfl⟩
    have hge : 0 ≤ r2:=by
     rcases Int.lt_or_le r2 0 with h | h
     ·have h1:=(cmpZ_tells WV ((k : Int) : Rat) r2 hr2).1.1 h
      exact absurd hkw (Rat.not_le.2 h1)
     ·exact h
    clear hkw hsk hok
    go_wp2
    refine layers_region23 23 _ _ w17 t1 a1 b1 q1' (k : Int) ws wx r2 (by simp) g22 (by simp [Act.eval]) (by simp [Act.eval]) kk CW (fun W hb => fracCmp_any _ _ WV ((k : Int) : Rat) W (fw.but hb) (FW W) ((unhide LW).mono (by omega)) ((len_int (k : Int) (by omega)).mono (by omega)) r2 hr2) ?_
    intro w18 hb18
    simp only [putted,List.foldl_cons,List.foldl_nil,Act.put,List.setIfInBounds_toArray,List.set_cons_zero,List.set_cons_succ]
    have T18:=hide ((unhide T17).trans' hb18)
    rw [decide_eq_true hge]
    clear hb18 fw kk hr2 FW CW
    go_wp2
    go_ret
    exact ⟨rfl,(unhide B1).trans' (unhide T18)⟩
 ·clear hx HX
  go_wp2_with fail
  refine (unhide ME _ (But.refl _ _)).mono ?_
  rintro e w2 ⟨hm,hb2⟩
  rcases hm with ⟨-,rfl⟩ | ⟨h0,-⟩
  ·have B2:=hide ((unhide B1).trans' hb2)
   obtain ⟨ce,hce⟩ : ∃ ce,ce = chkE fs:=⟨_,rfl⟩
   rw [← hce] at hck
   rw [← hce]
   clear hb2 B1 hce ME
   have bZ : But [] w2 (w2.alloc (.cells #[.bool false,.int .u64 0,.int .u64 0,.pointer none] 29)):=(But.refl _ _).alloc _
   have BZ:=hide ((unhide B2).trans' bZ)
   have X10:=hide (BoxAt.new w2 false 0 0 none 0 29 (zero_at _))
   clear bZ
   go_wp2_with fail
   refine (unhide DI _ (unhide BZ)).mono ?_
   rintro e w3 ⟨rfl,hb3⟩
   have B3:=hide ((unhide BZ).trans' hb3)
   have X103:=hide ((unhide X10).but hb3)
   clear hb3 X10 BZ B2
   generalize w2.heap.size = g10 at *
   go_wp2_with fail
   refine (unhide DI _ (unhide B3)).mono ?_
   rintro e w4 ⟨rfl,hb4⟩
   have B4:=hide ((unhide B3).trans' hb4)
   obtain ⟨⟨t3,a3,b3,q3,⟨c0,c1,c2,c3⟩,hf3⟩,-⟩:=(unhide X103).but hb4
   have SG:=hide (fracSign_any _ 0 w4 hf3)
   rw [show (0 : Rat).num.sign = 0 from rfl] at SG
   clear hb4 hf3 X103 B3
   go_wp2_with fail
   refine (unhide SG).mono ?_
   rintro e w5 ⟨rfl,hb5⟩
   have B5:=hide ((unhide B4).trans' hb5)
   clear hb5
   go_wp2
   go_ret
   exact ⟨rfl,unhide B5⟩
  ·exact absurd h0 hck
theorem layers_any (v : Value) (qs : List (Int × Int)) (y z : Int) (hy : -9223372036854775808 ≤ y∧y < 9223372036854775808) (hz : -9223372036854775808 ≤ z∧z < 9223372036854775808) (q : Int × Int) (hq : Fits q) (mx : Int) (w : World) (hv : QsAt w v qs) (hf : ∀ q ∈ qs,Fits q)
  (htab : Lib.TabIs Tryz.prog w "internal/strconv.uint64pow10" .u64 Lib.pow10Tab) (hmx : w.cell? ⟨4,0,none⟩ = some (.int .i64 mx)) (hgE : w.cell? ⟨0,0,none⟩ = some (.iface 178 (.agg #[.pointer (some ⟨7,35,none⟩)]))) :
  Calls Tryz.prog 4 #[v,.int .i64 y,.int .i64 z,.agg #[.int .i64 q.1,.int .i64 q.2]] w fun e w' => e = .returned (.bool true)∧But [] w w':=by
 by_cases hn : qs.length ≤ 40
 ·exact layers_few v qs y z hy hz q hq mx w hv hf hn htab hmx hgE
 ·obtain ⟨a,cap,rfl,-,-⟩:=hv
  exact layers_many a _ cap y z q.1 q.2 w (by omega)
end Go.Proofs.YtikgmhpbdcdogaaGreatDoor
