/- Chains whose numbers are whole, plain: s -/
import Derived.Test.YthlnhheblhapgaaGreatDoorKMGP
import Derived.Test.YthlnhheblhapgaaGreatDoorKMGT
import Derived.Test.YthlnhheblhapgaaGreatDoorKMPFr
namespace Go.Proofs.YthlnhheblhapgaaGreatDoor
open Go.RowKit
theorem mv_scale {L:Nat→Rat} {M:Nat→Nat→Rat} {c v:Rat} {n k:Nat}:mvR (fun i=>L i*c) (fun i k=>M i k*v) n k=mvR L M n k*(c*v):=by
 unfold mvR
 rw [← sgR_mulr]
 exact sgR_congr _ _ n (fun i _=>by grind)
theorem led_scale {Y M:Nat→Nat→Nat→Rat} {V:Nat→Rat} {R p:Nat→Rat} {U:Rat} {n o:Nat} (hY:∀ j i k,Y j i k=M j i k*V j) (hR:∀ k,R k=p k*U):∀ j k,ledR Y n R o j k=ledR M n p o j k*(U*prV V o j)
 | 0,k=>by
  show R k=p k*(U*1)
  rw [hR k,Rat.mul_one]
 | j+1,k=>by
  show mvR (ledR Y n R o j) (Y (o+j)) n k=mvR (ledR M n p o j) (M (o+j)) n k*(U*(prV V o j*V (o+j)))
  have h1:ledR Y n R o j=fun i=>ledR M n p o j i*(U*prV V o j):=funext fun i=>led_scale hY hR j i
  have h2:Y (o+j)=fun i k=>M (o+j) i k*V (o+j):=funext fun i=>funext fun k=>hY _ i k
  rw [h1,h2,mv_scale,Rat.mul_assoc]
theorem miss_scale {Y M:Nat→Nat→Nat→Rat} {V:Nat→Rat} {p:Nat→Rat} {n o kk:Nat} (hY:∀ j i k,Y j i k=M j i k*V j):∀ j k,missR Y n p kk o j k=missR M n p kk o j k*prV V o j
 | 0,k=>by
  show (if k=kk then 0 else p k)=(if k=kk then 0 else p k)*1
  rw [Rat.mul_one]
 | j+1,k=>by
  show (if k=kk then 0 else mvR (missR Y n p kk o j) (Y (o+j)) n k)=(if k=kk then 0 else mvR (missR M n p kk o j) (M (o+j)) n k)*(prV V o j*V (o+j))
  by_cases e:k=kk
  ·rw [if_pos e,if_pos e,Rat.zero_mul]
  ·rw [if_neg e,if_neg e]
   have h1:missR Y n p kk o j=fun i=>missR M n p kk o j i*prV V o j:=funext fun i=>miss_scale hY j i
   have h2:Y (o+j)=fun i k=>M (o+j) i k*V (o+j):=funext fun i=>funext fun k=>hY _ i k
   rw [h1,h2,mv_scale]
theorem div_back {x c:Rat} (h:0<c):x*c/c=x:=by
 rw [Rat.div_def,Rat.mul_assoc,Rat.mul_inv_cancel _ (fun e=>by rw [e] at h;exact absurd h (by decide)),Rat.mul_one]
theorem unit_scale (si k:Nat):unitR si k=unitR si k*1:=(Rat.mul_one _).symm
def chM (yss:List (List (List Rat))) (j i k:Nat):Rat:=((yss[j]?.getD [])[i]?.getD [])[k]?.getD 0
def chY (yss:List (List (List Rat))) (j:Nat):Nat→Nat→Rat:=yrM (yss[j]?.getD [])
def chV (yss:List (List (List Rat))) (j:Nat):Rat:=yrU (yss[j]?.getD [])
theorem chY_is (yss:List (List (List Rat))) (j i k:Nat):chY yss j i k=chM yss j i k*chV yss j:=rfl
theorem yrU_pos (ls:List (List Rat)):0<yrU ls:=by
 have:=com_pos ls.flatten 1 (by omega)
 unfold yrU yrN
 exact Rat.intCast_pos.2 (by omega)
theorem chV_pos (yss:List (List (List Rat))) (j:Nat):0<chV yss j:=yrU_pos _
theorem len_yrU {ls:List (List Rat)} {n:Nat} (h8:n≤8) (hN:ls.length=n) (hr:∀ l ∈ ls,l.length=n) (lf:∀ l ∈ ls,∀ f ∈ l,Len f 1):Len (yrU ls) 65:=by
 have hfl:=flatten_le ls n hr
 have hfl2:ls.flatten.length≤64:=by rw [hfl,hN];exact Nat.le_trans (Nat.mul_le_mul h8 h8) (by omega)
 have:=comN_len 1 ls.flatten 1 (fun f hf=>by
  obtain ⟨l,hl,hf'⟩:=List.mem_flatten.1 hf
  exact lf l hl f hf')
 have h1':(wd 18446744073709551616 1).length≤1:=wd_length_le (by omega) _ 1 (by omega)
 obtain ⟨e1,e2⟩:=int_parts (((comN 1 ls.flatten:Nat):Int))
 refine ⟨?_,?_⟩
 ·unfold yrU yrN;rw [e1,Int.natAbs_natCast];omega
 ·unfold yrU yrN;rw [e2];exact Nat.le_trans h1' (by omega)
theorem chainOk_at {yss:List (List (List Rat))} (h:ChainOk yss) (j:Nat) (hj:j<yss.length):MatOk (yss[j]?.getD [])∧(yss[j]?.getD []).length=(yss[0]?.getD []).length∧(yss[j]?.getD []) ∈ yss:=by
 rw [List.getElem?_eq_getElem hj,Option.getD_some]
 have hm:=List.getElem_mem hj
 exact ⟨(h.2.2 _ hm).1,(h.2.2 _ hm).2,hm⟩
theorem chainN_of {yss:List (List (List Rat))} (h:ChainOk yss) (lf:∀ ls ∈ yss,∀ l ∈ ls,∀ f ∈ l,Len f 1):ChainN yss.length (yss[0]?.getD []).length (chY yss) (chV yss):=by
 obtain ⟨h0,-,-⟩:=chainOk_at h 0 h.1
 have key:∀ j,j<yss.length→isN (chV yss j) (18446744073709551616^66)∧∀ i k,i<(yss[0]?.getD []).length→k<(yss[0]?.getD []).length→isN (chY yss j i k) (18446744073709551616^66):=fun j hj=>by
  obtain ⟨hok,hlen,hmem⟩:=chainOk_at h j hj
  have hLU:=len_yrU hok.2.1 rfl (fun l hl=>(hok.2.2 l hl).1) (lf _ hmem)
  refine ⟨isN_of (Rat.le_of_lt (yrU_pos _)) ⟨_,rfl⟩ (hLU.mono (by omega)),fun i k hi hk=>?_⟩
  have hil:i<(yss[j]?.getD []).length:=by omega
  have hrow:=hok.2.2 _ (List.getElem_mem hil)
  have hkl:k<((yss[j]?.getD [])[i]).length:=by rw [hrow.1];omega
  have hf:((yss[j]?.getD [])[i])[k] ∈ (yss[j]?.getD [])[i]:=List.getElem_mem hkl
  have he:chY yss j i k=((yss[j]?.getD [])[i])[k] * yrU (yss[j]?.getD []):=by
   show ((yss[j]?.getD [])[i]?.getD [])[k]?.getD 0*_=_
   rw [List.getElem?_eq_getElem hil,Option.getD_some,List.getElem?_eq_getElem hkl,Option.getD_some]
  rw [he]
  refine isN_of (Rat.mul_nonneg (hrow.2.1 _ hf) (Rat.le_of_lt (yrU_pos _))) ?_ ?_
  ·obtain ⟨z,hz⟩:=com_whole (yss[j]?.getD []).flatten 1 _ (List.mem_flatten.2 ⟨_,List.getElem_mem hil,hf⟩)
   exact ⟨z,hz⟩
  ·exact len_mul (lf _ hmem _ (List.getElem_mem hil) _ hf) hLU _ (by omega)
 exact ⟨h0.1,h0.2.1,h.1,h.2.1,fun j hj=>(key j hj).2,fun j hj=>(key j hj).1⟩
theorem chM_stoch {yss:List (List (List Rat))} (h:ChainOk yss) (j:Nat) (hj:j<yss.length):Stoch (chM yss j) (yss[0]?.getD []).length:=fun i hi=>by
 obtain ⟨hok,hlen,-⟩:=chainOk_at h j hj
 have hil:i<(yss[j]?.getD []).length:=by omega
 have hrow:=hok.2.2 _ (List.getElem_mem hil)
 have he:∀ k,chM yss j i k=atR ((yss[j]?.getD [])[i]) k:=fun k=>by
  unfold chM atR
  rw [List.getElem?_eq_getElem hil,Option.getD_some]
 refine ⟨?_,fun k _=>?_⟩
 ·have h1:chM yss j i=atR ((yss[j]?.getD [])[i]):=funext he
  rw [h1,← hlen,← hrow.1]
  exact hrow.2.2
 ·rw [he]
  exact atR_pos hrow.2.1 k
end Go.Proofs.YthlnhheblhapgaaGreatDoor

namespace Go.Proofs.YthlnhheblhapgaaGreatDoor
open Go.RowKit
set_option maxHeartbeats 16000000
set_option maxRecDepth 100000
def coinQ:List (List (List (Int × Int))):=[[[(1,2),(1,2)],[(1,2),(1,2)]]]
theorem qf_half:qf (1,2)=1/2:=by kernel_rfl
theorem coinF:yearsF coinQ=[[[1/2,1/2],[1/2,1/2]]]:=by
 show [[[qf (1,2),qf (1,2)],[qf (1,2),qf (1,2)]]]=_
 rw [qf_half]
theorem half_parts:((1/2:Rat)).num=1∧((1/2:Rat)).den=2:=⟨by kernel_rfl,by kernel_rfl⟩
theorem half_len:Len (1/2:Rat) 1:=len_of (m:=1) (n:=1) (by rw [half_parts.1];decide) (by rw [half_parts.2];decide) 1 (by omega) (by omega)
theorem coin_row:RowOkP [(1/2:Rat),1/2] 2:=by
 refine ⟨rfl,fun f hf=>?_,?_⟩
 ·simp at hf
  subst hf
  exact Rat.num_nonneg.1 (by rw [half_parts.1];decide)
 ·show (0:Rat)+1/2+1/2=1
  grind
theorem coin_ok:ChainOk (yearsF coinQ):=by
 rw [coinF]
 refine ⟨by simp,by simp,fun ls hls=>?_⟩
 simp only [List.mem_cons,List.not_mem_nil,or_false] at hls
 subst hls
 refine ⟨⟨by simp,by simp,fun l hl=>?_⟩,rfl⟩
 simp only [List.mem_cons,List.not_mem_nil,or_false,or_self] at hl
 subst hl
 exact coin_row
theorem coin_prob:ledR (chY (yearsF coinQ)) 2 (unitR 0) 0 1 1/prV (chV (yearsF coinQ)) 0 1=1/2:=by
 rw [led_scale (chY_is (yearsF coinQ)) (unit_scale 0) 1 1,Rat.one_mul,div_back (prV_pos 1 (fun j _=>chV_pos _ _))]
 show (0:Rat)+unitR 0 0*chM (yearsF coinQ) 0 0 1+unitR 0 1*chM (yearsF coinQ) 0 1 1=1/2
 rw [coinF]
 show (0:Rat)+1*(1/2)+0*(1/2)=1/2
 grind
theorem coin_text:fracTxt false 1 2=⟨#[49,47,50]⟩:=by
 have d1:Lib.decDigits 1=[49]:=by rw [Lib.decDigits];simp
 have d2:Lib.decDigits 2=[50]:=by rw [Lib.decDigits];simp
 unfold fracTxt
 rw [d1,d2]
 rfl
theorem coin_at (W:World) (g:Nat) (h2:∀ k,k<4→W.cell? ⟨g,k,none⟩=some (.int .i64 (if k%2=0 then 1 else 2))):QsAt W (.slice (some ⟨g,0,none⟩) 2 2) [(1,2),(1,2)]:=by
 refine ⟨_,2,rfl,by simp,fun i q hq=>⟨g,0,rfl,?_⟩⟩
 have hi:i=0∨i=1:=by
  have:=(List.getElem?_eq_some_iff.1 hq).1
  simp at this
  omega
 rcases hi with rfl | rfl
 ·simp at hq
  subst hq
  exact ⟨h2 0 (by omega),h2 1 (by omega)⟩
 ·simp at hq
  subst hq
  exact ⟨h2 2 (by omega),h2 3 (by omega)⟩
theorem coin_any (m:Int) (w:World) (hg:ErrVarG w) (htab:Lib.TabIs Tryz.prog w "internal/strconv.uint64pow10" .u64 Lib.pow10Tab) (hm:w.cell? ⟨4,0,none⟩=some (.int .i64 m)) :
  Calls Tryz.prog 6 #[] w fun e w'=>e=.returned (.bool true)∧But [] w w':=by
 have PC:=hide (fun q n cap W (hb:But [] w W) (hv:QyearsAt W (.slice q n cap) coinQ) (hn:n=1)=>plainChain_any q n cap coinQ m W hv hn (by omega) (fun rs hrs=>by
  simp only [coinQ,List.mem_cons,List.not_mem_nil,or_false] at hrs
  subst hrs
  refine ⟨by simp,fun r hr=>?_⟩
  simp only [List.mem_cons,List.not_mem_nil,or_false,or_self] at hr
  subst hr
  simp) (fun rs hrs r hr z hz=>by
  simp only [coinQ,List.mem_cons,List.not_mem_nil,or_false] at hrs
  subst hrs
  simp only [List.mem_cons,List.not_mem_nil,or_false,or_self] at hr
  subst hr
  simp only [List.mem_cons,List.not_mem_nil,or_false,or_self] at hz
  subst hz
  exact ⟨by decide,by decide,by decide,by decide⟩) (hb.cell_some hg (by simp)) (TabIs.but htab hb) (hb.cell_some hm (by simp)))
 have PR:=hide (fun W g (hC:ChainAt W g 1 2 (chY (yearsF coinQ)) (chV (yearsF coinQ)))=>prob_any g 1 2 (chY (yearsF coinQ)) (chV (yearsF coinQ)) 0 1 0 1 W hC (chainN_of coin_ok (fun ls hls l hl f hf=>by
  rw [coinF] at hls
  simp only [List.mem_cons,List.not_mem_nil,or_false] at hls
  subst hls
  simp only [List.mem_cons,List.not_mem_nil,or_false,or_self] at hl
  subst hl
  simp only [List.mem_cons,List.not_mem_nil,or_false,or_self] at hf
  subst hf
  exact half_len)) (fun j _=>chV_pos _ _) (by omega) (by omega) (by omega) (by omega))
 have TX:Hid (∀ W v,But [] w W→FracAt W v (1/2)→Calls Tryz.prog 22 #[v] W fun e w'=>e=.returned (.string ⟨#[49,47,50]⟩)∧But [] W w'):=fun W v hb hv=>by
  have e1:=half_parts.1
  have e2:=half_parts.2
  obtain ⟨n1,n2⟩:=len_small half_len (by omega)
  exact fracText_at _ (1/2) W hv n1 n2 (TabIs.but htab hb) _ (by
   show _=_
   rw [e1,e2]
   exact coin_text.symm)
 obtain ⟨V1,hV1⟩:∃ V1,V1=w.alloc (.cells #[.int .i64 1,.int .i64 2] 59):=⟨_,rfl⟩
 obtain ⟨V2,hV2⟩:∃ V2,V2=V1.alloc (.cells #[.int .i64 1,.int .i64 2,.int .i64 1,.int .i64 2] 59):=⟨_,rfl⟩
 obtain ⟨V3,hV3⟩:∃ V3,V3=V2.alloc (.cells #[.int .i64 1,.int .i64 2,.int .i64 1,.int .i64 2] 59):=⟨_,rfl⟩
 have e1:V1.heap.size=w.heap.size+1:=by rw [hV1];simp
 have e2:V2.heap.size=w.heap.size+1+1:=by rw [hV2,← e1];simp
 have e3:V3.heap.size=w.heap.size+1+1+1:=by rw [hV3,← e2];simp
 obtain ⟨V4,hV4⟩:∃ V4,V4=V3.alloc (.cells #[.slice (some ⟨w.heap.size+1,0,none⟩) 2 2,.slice (some ⟨w.heap.size+1+1,0,none⟩) 2 2] 23):=⟨_,rfl⟩
 have e4:V4.heap.size=w.heap.size+1+1+1+1:=by rw [hV4,← e3];simp
 obtain ⟨V5,hV5⟩:∃ V5,V5=V4.alloc (.cells #[.slice (some ⟨w.heap.size+1+1+1,0,none⟩) 2 2] 50):=⟨_,rfl⟩
 have b1:But [] w V1:=by rw [hV1];exact (But.refl _ _).alloc _
 have b2:But [] V1 V2:=by rw [hV2];exact (But.refl _ _).alloc _
 have b3:But [] V2 V3:=by rw [hV3];exact (But.refl _ _).alloc _
 have b4:But [] V3 V4:=by rw [hV4];exact (But.refl _ _).alloc _
 have b5:But [] V4 V5:=by rw [hV5];exact (But.refl _ _).alloc _
 have q2:QsAt V2 (.slice (some ⟨w.heap.size+1,0,none⟩) 2 2) [(1,2),(1,2)]:=coin_at _ _ (fun k hk=>by
  rw [hV2,← e1]
  have:k=0∨k=1∨k=2∨k=3:=by omega
  rcases this with rfl | rfl | rfl | rfl <;> simp)
 have q3:QsAt V3 (.slice (some ⟨w.heap.size+1+1,0,none⟩) 2 2) [(1,2),(1,2)]:=coin_at _ _ (fun k hk=>by
  rw [hV3,← e2]
  have:k=0∨k=1∨k=2∨k=3:=by omega
  rcases this with rfl | rfl | rfl | rfl <;> simp)
 have q4:QrowsAt V4 (.slice (some ⟨w.heap.size+1+1+1,0,none⟩) 2 2) [[(1,2),(1,2)],[(1,2),(1,2)]]:=by
  refine ⟨_,2,rfl,fun i r hr=>?_⟩
  have hi:i=0∨i=1:=by
   have:=(List.getElem?_eq_some_iff.1 hr).1
   simp at this
   omega
  rcases hi with rfl | rfl
  ·simp at hr
   subst hr
   exact ⟨_,0,_,rfl,by rw [hV4,← e3];simp,(q2.but b3).but b4⟩
  ·simp at hr
   subst hr
   exact ⟨_,0,_,rfl,by rw [hV4,← e3];simp,q3.but b4⟩
 have q5:QyearsAt V5 (.slice (some ⟨w.heap.size+1+1+1+1,0,none⟩) 1 1) coinQ:=by
  refine ⟨_,1,rfl,fun i r hr=>?_⟩
  have hi:i=0:=by
   have:=(List.getElem?_eq_some_iff.1 hr).1
   simp [coinQ] at this
   omega
  subst hi
  simp [coinQ] at hr
  subst hr
  exact ⟨_,0,_,rfl,by rw [hV5,← e4];simp,q4.but b5⟩
 have bb:=(((b1.trans' b2).trans' b3).trans' b4).trans' b5
 have CC:=hide (unhide PC _ _ _ V5 bb q5 rfl)
 have BB:=hide bb
 have HW:=hide (hV5.trans (by rw [hV4,hV3,hV2,hV1]))
 clear hg htab hm b1 b2 b3 b4 b5 q2 q3 q4 q5 bb e1 e2 e3 e4 hV1 hV2 hV3 hV4 hV5 V1 V2 V3 V4 PC
 go_enter Tryz.func6,Tryz.ntmps6
 go_wp2_with fail
 rw [← unhide HW]
 refine (unhide CC).mono ?_
 rintro e w1 ⟨hb1,hcase⟩
 have B1:=hide ((unhide BB).trans' hb1)
 clear hb1 CC BB HW
 rcases hcase with ⟨hok,g,rfl,hch⟩ | ⟨hno,-⟩
 ·have PP:=hide (unhide PR w1 g hch)
  clear hok hch
  go_wp2_with fail
  refine (unhide PP).mono ?_
  rintro e w2 ⟨s,x,y,p,rfl,hf2,hb2⟩
  have hf2':FracAt w2 (.agg #[.bool s,.int .u64 x,.int .u64 y,.pointer p]) (1/2):=by
   have:=hf2
   rw [show (1-0:Nat)=1 from rfl,coin_prob] at this
   exact this
  have bA:But [] w2 (w2.alloc (.cells #[.bool s,.int .u64 x,.int .u64 y,.pointer p] 41)):=(But.refl _ _).alloc _
  have TT:=hide (unhide TX _ _ (((unhide B1).trans' hb2).trans' bA) (hf2'.but bA))
  have B2:=hide (((unhide B1).trans' hb2).trans' bA)
  clear hf2 hf2' hb2 bA PP B1
  go_wp2_with fail
  refine (unhide TT).mono ?_
  rintro e w3 ⟨rfl,hb3⟩
  have B3:=hide ((unhide B2).trans' hb3)
  clear hb3 TT B2
  go_wp2
  go_ret
  exact ⟨by first | rfl | simp,unhide B3⟩
 ·exact absurd coin_ok hno
end Go.Proofs.YthlnhheblhapgaaGreatDoor

namespace Go.Proofs.YthlnhheblhapgaaGreatDoor
open Go.RowKit
set_option linter.unusedVariables false
theorem pick_some (a n:Int) (h1:-9223372036854775808≤a) (h2:a<9223372036854775808) (hn:0<n) (hn2:n<9223372036854775808):∃ t:Nat,(t:Int)<n∧∀ W,Calls Tryz.prog 8 #[.int .i64 a,.int .i64 n] W fun e w'=>e=.returned (.int .i64 (t:Int))∧But [] W w':=by
 refine ⟨((if a<0 then a + 18446744073709551616 else a)%n).toNat,?_,fun W=>pick_gen a n h1 h2 hn hn2 W⟩
 have h3:=Int.emod_nonneg (if a<0 then a + 18446744073709551616 else a) (b:=n) (by omega)
 have h4:=Int.emod_lt_of_pos (if a<0 then a + 18446744073709551616 else a) hn
 omega
theorem RowR.congr {w:World} {g n:Nat} {F G:Nat→Rat} (h:RowR w g n F) (e:∀ k,k<n→F k=G k):RowR w g n G:=fun k hk=>e k hk ▸ h k hk
theorem spread_is (yss:List (List (List Rat))) (fs:List Rat) (n o j k:Nat):ledR (chY yss) n (rwR fs) o j k/(rwU fs*prV (chV yss) o j)=ledR (chM yss) n (atR fs) o j k:=by
 rw [led_scale (chY_is yss) (R:=rwR fs) (p:=atR fs) (U:=rwU fs) (fun k=>rfl) j k]
 exact div_back (Rat.mul_pos (rwU_pos fs) (prV_pos j (fun i _=>chV_pos _ _)))
theorem prob_is (yss:List (List (List Rat))) (n si o j k:Nat):ledR (chY yss) n (unitR si) o j k/prV (chV yss) o j=ledR (chM yss) n (unitR si) o j k:=by
 rw [led_scale (chY_is yss) (unit_scale si) j k,Rat.one_mul]
 exact div_back (prV_pos j (fun i _=>chV_pos _ _))
theorem hits_is (yss:List (List (List Rat))) (n si kk o j:Nat):sgR (missR (chY yss) n (unitR si) kk o j) n/prV (chV yss) o j=sgR (missR (chM yss) n (unitR si) kk o j) n:=by
 have:sgR (missR (chY yss) n (unitR si) kk o j) n=sgR (missR (chM yss) n (unitR si) kk o j) n*prV (chV yss) o j:=by
  rw [← sgR_mulr]
  exact sgR_congr _ _ n (fun k _=>miss_scale (chY_is yss) j k)
 rw [this]
 exact div_back (prV_pos j (fun i _=>chV_pos _ _))
theorem spread_len {yss:List (List (List Rat))} {fs:List Rat} {ny n o j:Nat} (hN:ChainN ny n (chY yss) (chV yss)) (hok:RowOkP fs n) (lf:∀ f ∈ fs,Len f 1) (hj:o+j≤ny) (k:Nat) (hk:k<n):Len (ledR (chM yss) n (atR fs) o j k) 15999:=by
 rw [← spread_is yss fs n o j k]
 have y120:=hN.y120
 have h1:=isN_len (isN_led hN.n8 (fun k _=>isN_rwR (Nat.le_of_eq hok.1) hN.n8 (by omega) lf hok.2.1 k) j (fun i hi=>hN.nY (o+i) (by omega)) k hk)
 have h2:=isN_len (isN_ledU (isN_rwU (Nat.le_of_eq hok.1) hN.n8 lf) hN.nV hj)
 exact len_div h1 h2 (num_ne (Rat.mul_pos (rwU_pos fs) (prV_pos j (fun i _=>chV_pos _ _)))) _ (by omega)
theorem prob_len {yss:List (List (List Rat))} {ny n si o j:Nat} (hN:ChainN ny n (chY yss) (chV yss)) (hj:o+j≤ny) (k:Nat) (hk:k<n):Len (ledR (chM yss) n (unitR si) o j k) 20000:=by
 rw [← prob_is yss n si o j k]
 have y120:=hN.y120
 have h1:=isN_len (isN_led hN.n8 (fun k _=>isN_unit si k) j (fun i hi=>hN.nY (o+i) (by omega)) k hk)
 have h2:=isN_len (isN_prV (V:=chV yss) (o:=o) (v:=66) j (fun i hi=>hN.nV (o+i) (by omega)))
 exact len_div h1 h2 (num_ne (prV_pos j (fun i _=>chV_pos _ _))) _ (by omega)
theorem hits_len {yss:List (List (List Rat))} {ny n si kk o j:Nat} (hN:ChainN ny n (chY yss) (chV yss)) (hj:o+j≤ny):Len (((1:Int):Rat)-sgR (missR (chM yss) n (unitR si) kk o j) n) 30000:=by
 rw [← hits_is yss n si kk o j]
 have y120:=hN.y120
 have n8:=hN.n8
 have h0:=isN_sg (missR (chY yss) n (unitR si) kk o j) (18446744073709551616^(1+67*j)) n (fun k hk=>isN_miss hN.n8 (fun k _=>isN_unit si k) j (fun i hi=>hN.nY (o+i) (by omega)) k hk)
 have h1:isN (sgR (missR (chY yss) n (unitR si) kk o j) n) (18446744073709551616^(1+67*j+1)):=h0.mono (by
  rw [Nat.pow_succ,Nat.mul_comm]
  exact Nat.mul_le_mul_left _ (by omega))
 have h2:=isN_len (isN_prV (V:=chV yss) (o:=o) (v:=66) j (fun i hi=>hN.nV (o+i) (by omega)))
 exact len_sub (len_int 1 (by decide)) (len_div (isN_len h1) h2 (num_ne (prV_pos j (fun i _=>chV_pos _ _))) (20000) (by omega)) _ (by omega)
theorem unit_sum {n si:Nat} (h:si<n):sgR (unitR si) n=1:=by
 have:=sgR_one si (fun _=>(1:Rat)) n
 rw [if_pos h] at this
 exact this
theorem unit_pos (si k:Nat):0≤unitR si k:=by
 unfold unitR
 by_cases h:k=si
 ·rw [if_pos h];decide
 ·rw [if_neg h];exact Rat.le_refl
end Go.Proofs.YthlnhheblhapgaaGreatDoor

namespace Go.Proofs.YthlnhheblhapgaaGreatDoor
open Go.RowKit
set_option maxHeartbeats 64000000
set_option maxRecDepth 100000
set_option linter.unusedVariables false
theorem tot_short {rss:List (List (List (Int × Int)))} {n:Nat} (hN:n=rss.length) (h:n+tot3 rss n≤300):∀ rs ∈ rss,rs.length≤1000∧∀ r ∈ rs,r.length≤1000:=fun rs hrs=>by
 obtain ⟨i,hi⟩:=List.mem_iff_getElem?.1 hrs
 have hil:i<n:=by rw [hN];exact (List.getElem?_eq_some_iff.1 hi).1
 have h1:=sgN_part (f:=fun i=>(rss[i]?.getD []).length+tot2 (rss[i]?.getD []) (rss[i]?.getD []).length) hil
 simp only [hi,Option.getD_some] at h1
 have h1':tot3 rss i+(rs.length+tot2 rs rs.length)≤tot3 rss n:=h1
 refine ⟨by omega,fun r hr=>?_⟩
 obtain ⟨k,hk⟩:=List.mem_iff_getElem?.1 hr
 have hkl:k<rs.length:=(List.getElem?_eq_some_iff.1 hk).1
 have h2:=sgN_part (f:=fun j=>(rs[j]?.getD []).length) hkl
 simp only [hk,Option.getD_some] at h2
 have h2':tot2 rs k+r.length≤tot2 rs rs.length:=h2
 omega
theorem chainMeets_few (q:Option Addr) (ny cap:Nat) (rss:List (List (List (Int × Int)))) (v1:Value) (qs:List (Int × Int)) (a2 a3 a4 a5:Int) (m:Int) (w:World) (hv:QyearsAt w (.slice q ny cap) rss) (hN:ny=rss.length) (hT:ny+tot3 rss ny≤300) (hq:QsAt w v1 qs) (hq20:qs.length≤20) (hf:∀ rs ∈ rss,∀ r ∈ rs,∀ z ∈ r,Fits z) (hfq:∀ z ∈ qs,Fits z)
  (b2:-9223372036854775808≤a2∧a2<9223372036854775808) (b3:-9223372036854775808≤a3∧a3<9223372036854775808) (b4:-9223372036854775808≤a4∧a4<9223372036854775808) (b5:-9223372036854775808≤a5∧a5<9223372036854775808) (hg:ErrVarG w) (htab:Lib.TabIs Tryz.prog w "internal/strconv.uint64pow10" .u64 Lib.pow10Tab) (hm:w.cell? ⟨4,0,none⟩=some (.int .i64 m)) :
  Calls Tryz.prog 3 #[.slice q ny cap,v1,.int .i64 a2,.int .i64 a3,.int .i64 a4,.int .i64 a5] w fun e w'=>e=.returned (.bool true)∧But [] w w':=by
 have FW:=hide (few3_any q ny cap rss w hv (by omega))
 rw [decide_eq_true hT] at FW
 have CO:=hide (fun W (hb:But [] w W)=>coin_any m W (hb.cell_some hg (by simp)) (TabIs.but htab hb) (hb.cell_some hm (by simp)))
 have PC:=hide (fun W (hb:But [] w W)=>plainChain_any q ny cap rss m W (hv.but hb) hN (by omega) (tot_short hN hT) hf (hb.cell_some hg (by simp)) (TabIs.but htab hb) (hb.cell_some hm (by simp)))
 have FS:=hide (fun W (hb:But [] w W)=>plainFs_any v1 qs W (hq.but hb) hfq (by omega))
 have lfs:∀ f ∈ qs.map qf,Len f 1:=fun f hf'=>by
  obtain ⟨z,hz,rfl⟩:=List.mem_map.1 hf'
  obtain ⟨_,_,_,h,-⟩:=plainF_at z (hfq z hz)
  exact h
 have lys:∀ ls ∈ yearsF rss,∀ l ∈ ls,∀ f ∈ l,Len f 1:=fun ls hls l hl' f hf'=>by
  obtain ⟨rs,hrs,rfl⟩:=List.mem_map.1 hls
  obtain ⟨r,hr,rfl⟩:=List.mem_map.1 hl'
  obtain ⟨z,hz,rfl⟩:=List.mem_map.1 hf'
  obtain ⟨_,_,_,h,-⟩:=plainF_at z (hf rs hrs r hr z hz)
  exact h
 have LF:=hide lfs
 have LY:=hide lys
 have HT:=hide htab
 have HM:=hide hm
 obtain ⟨qa,qc,rfl,-,-⟩:=id hq
 obtain ⟨nq,hnq⟩:∃ nq,nq=qs.length:=⟨_,rfl⟩
 rw [← hnq] at hq20 FS ⊢
 have hyl:(yearsF rss).length=ny:=by unfold yearsF;rw [List.length_map,← hN]
 have HYL:=hide hyl
 have ny300:ny≤300:=by omega
 have HNQ:=hide hnq
 clear hv hN hq hf hfq hg htab hm lfs lys hyl hnq hT
 go_enter Tryz.func3,Tryz.ntmps3
 go_wp2_with fail
 refine (unhide FW).mono ?_
 rintro e w1 ⟨rfl,hb1⟩
 have B1:=hide hb1
 have PC1:=hide (unhide PC w1 hb1)
 clear hb1 FW PC
 go_wp2_with fail
 refine (unhide PC1).mono ?_
 rintro e w2 ⟨hb2,hcase⟩
 have B2:=hide ((unhide B1).trans' hb2)
 have CO2:=hide (unhide CO w2 (unhide B2))
 clear hb2 PC1 B1
 rcases hcase with ⟨hok,g,rfl,hch⟩ | ⟨hno,cc,hc1,hc2,rfl⟩
 ·obtain ⟨yss,hyss⟩:∃ yss,yss=yearsF rss:=⟨_,rfl⟩
  rw [← hyss] at hok hch HYL LY
  have hNN:=chainN_of hok (unhide LY)
  obtain ⟨n,hn⟩:∃ n,n=(yss[0]?.getD []).length:=⟨_,rfl⟩
  rw [unhide HYL,← hn] at hNN hch
  have n8:=hNN.n8
  have n1:=hNN.n1
  have y120:=hNN.y120
  have HST:Hid (∀ j,j<ny→Stoch (chM yss j) n):=fun j hj=>by
   rw [hn]
   exact chM_stoch hok j (by rw [unhide HYL];exact hj)
  have HNN:=hide hNN
  have CH:Hid (∀ W,But [] w2 W→ChainAt W g ny n (chY yss) (chV yss)):=fun W hb=>hch.but hb
  clear hok hch hNN hn LY hyss
  go_wp2_with fail
  refine (unhide CO2).mono ?_
  rintro e w3 ⟨rfl,hb3⟩
  have E3:=hide hb3
  have YE:=hide (chYears_any g ny n _ _ w3 (unhide CH w3 hb3))
  clear hb3 CO2 CO
  go_wp2_with fail
  refine (unhide YE).mono ?_
  rintro e w4 ⟨rfl,hb4⟩
  have E4:=hide ((unhide E3).trans' hb4)
  obtain ⟨tt,htt,PK1⟩:=pick_some a4 ((ny:Int)+1) b4.1 b4.2 (by omega) (by omega)
  have P1:=hide (PK1 w4)
  clear hb4 E3 YE PK1
  go_wp2_with fail
  refine (unhide P1).mono ?_
  rintro e w5 ⟨rfl,hb5⟩
  have E5:=hide ((unhide E4).trans' hb5)
  obtain ⟨mm,hmm,PK2⟩:=pick_some a3 ((tt:Int)+1) b3.1 b3.2 (by omega) (by omega)
  have P2:=hide (PK2 w5)
  clear hb5 E4 P1 PK2
  go_wp2_with fail
  refine (unhide P2).mono ?_
  rintro e w6 ⟨rfl,hb6⟩
  have E6:=hide ((unhide E5).trans' hb6)
  obtain ⟨ff,hff,PK3⟩:=pick_some a2 ((mm:Int)+1) b2.1 b2.2 (by omega) (by omega)
  have P3:=hide (PK3 w6)
  clear hb6 E5 P2 PK3
  go_wp2_with fail
  refine (unhide P3).mono ?_
  rintro e w7 ⟨rfl,hb7⟩
  have E7:=hide ((unhide E6).trans' hb7)
  have o1:ff≤mm:=by omega
  have o2:mm≤tt:=by omega
  have o3:tt≤ny:=by omega
  clear hb7 E6 P3 htt hmm hff
  have FS7:=hide (unhide FS w7 ((unhide B2).trans' (unhide E7)))
  go_wp2_with fail
  refine (unhide FS7).mono ?_
  rintro e w8 ⟨v8,vs8,rfl,hh8,hb8⟩
  have E8:=hide ((unhide E7).trans' hb8)
  have SP:=hide (fun W v fs c o t (hb:But [] w2 W) (hv:FracsAt W v fs) (hl:fs.length<1000000) (lf:∀ f ∈ fs,Len f c) (hc1:1≤c) (hc:c≤16000) (hot:o≤t) (htn:t≤ny)=>spread_any g ny n (chY yss) (chV yss) v fs o t c m W (unhide CH W hb) (unhide HNN) (fun j _=>chV_pos _ _) hv hl lf hc1 hc hot htn (TabIs.but (unhide HT) ((unhide B2).trans' hb)) (((unhide B2).trans' hb).cell_some (unhide HM) (by simp)))
  obtain ⟨q8,c8,hv8⟩:∃ q c,v8=.slice q nq c:=by
   obtain ⟨a,c,e,-⟩:=hh8.fracs
   rw [List.length_map,← unhide HNQ] at e
   exact ⟨a,c,e⟩
  obtain ⟨fs,hfs⟩:∃ fs,fs=qs.map qf:=⟨_,rfl⟩
  have hfl:fs.length<1000000:=by
   rw [hfs,List.length_map,← unhide HNQ]
   omega
  have HFL:Hid (fs.length=nq):=by
   show _=_
   rw [hfs,List.length_map,← unhide HNQ]
  rw [← hfs] at hh8 LF FS
  subst hv8
  have S1:=hide (unhide SP w8 _ fs 1 ff mm (unhide E8) hh8.fracs hfl (unhide LF) (by omega) (by omega) o1 (by omega))
  clear hh8 hb8 E7 FS7 hfs
  go_wp2_with fail
  refine (unhide S1).mono ?_
  rintro e w9 ⟨hb9,hcase⟩
  have E9:=hide ((unhide E8).trans' hb9)
  clear hb9 E8 S1
  rcases hcase with ⟨hok,gA,rfl,hrA⟩ | ⟨hno,cc,hc1,hc2,rfl⟩
  ·obtain ⟨G1,hG1⟩:∃ G1:Nat→Rat,G1=ledR (chM yss) n (atR fs) ff (mm-ff):=⟨_,rfl⟩
   obtain ⟨G3,hG3⟩:∃ G3:Nat→Rat,G3=ledR (chM yss) n (atR fs) ff (tt-ff):=⟨_,rfl⟩
   have hrA':RowR w9 gA n G1:=hrA.congr (fun k _=>by rw [hG1];exact spread_is yss fs n ff (mm-ff) k)
   have frA:=hrA'.fracs n (Nat.le_refl _)
   have pos1:∀ k,k<n→0≤atR fs k:=fun k _=>atR_pos hok.2.1 k
   have one1:sgR (atR fs) n=1:=by have:=hok.2.2;rwa [hok.1] at this
   have pG1:∀ k,k<n→0≤G1 k:=by rw [hG1];exact ledR_nonneg ff pos1 (mm-ff) (fun t ht=>unhide HST (ff+t) (by omega))
   have sG1:sgR G1 n=1:=by rw [hG1,ledR_sum ff (mm-ff) (fun t ht=>unhide HST (ff+t) (by omega))];exact one1
   have sG3:sgR G3 n=1:=by rw [hG3,ledR_sum ff (tt-ff) (fun t ht=>unhide HST (ff+t) (by omega))];exact one1
   have lG1:∀ f ∈ (List.range n).map G1,Len f 15999:=fun f hf=>by
    obtain ⟨k,hk,rfl⟩:=List.mem_map.1 hf
    rw [hG1]
    exact spread_len (unhide HNN) hok (unhide LF) (by omega) k (List.mem_range.1 hk)
   have lG3:∀ k,k<n→Len (G3 k) 15999:=fun k hk=>by
    rw [hG3]
    exact spread_len (unhide HNN) hok (unhide LF) (by omega) k hk
   have okA:RowOkP ((List.range n).map G1) n:=by
    refine ⟨by simp,fun f hf=>?_,?_⟩
    ·obtain ⟨k,hk,rfl⟩:=List.mem_map.1 hf
     exact pG1 k (List.mem_range.1 hk)
    ·rw [List.length_map,List.length_range,sgR_range]
     exact sG1
   have meet:∀ k,k<n→ledR (chM yss) n (atR ((List.range n).map G1)) mm (tt-mm) k=G3 k:=fun k hk=>by
    have h1:=ledR_congr (Y:=chM yss) (n:=n) (a:=atR ((List.range n).map G1)) (b:=G1) (fun i hi=>by
     unfold atR
     rw [List.getElem?_map,List.getElem?_range hi];rfl) mm (tt-mm) k hk
    rw [h1,hG1,hG3]
    have h2:=ledR_add (chM yss) n (atR fs) ff (mm-ff) (tt-mm) k
    rw [show ff+(mm-ff)=mm from by omega,show mm-ff+(tt-mm)=tt-ff from by omega] at h2
    exact h2
   have S2:=hide (unhide SP w9 _ _ 15999 mm tt (unhide E9) frA (by simp;omega) lG1 (by omega) (by omega) o2 o3)
   have HOK:=hide hok
   have OKA:=hide okA
   have MEET:=hide meet
   have HG3:=hide hG3
   have SG3:=hide sG3
   have LG3:=hide lG3
   clear hrA hrA' frA pos1 one1 pG1 sG1 sG3 lG1 lG3 okA meet hok hG1 hG3
   go_wp2_with fail
   refine (unhide S2).mono ?_
   rintro e w10 ⟨hb10,hcase⟩
   have E10:=hide ((unhide E9).trans' hb10)
   clear hb10 E9 S2
   rcases hcase with ⟨-,gB,rfl,hrB⟩ | ⟨hno,-⟩
   ·have RB:Hid (RowR w10 gB n G3):=hrB.congr (fun k hk=>by rw [spread_is yss _ n mm (tt-mm) k];exact unhide MEET k hk)
    have FS10:=hide (unhide FS w10 ((unhide B2).trans' (unhide E10)))
    clear hrB MEET OKA
    go_wp2_with fail
    refine (unhide FS10).mono ?_
    rintro e w11 ⟨v11,vs11,rfl,hh11,hb11⟩
    obtain ⟨q11,c11,hv11⟩:∃ q c,v11=.slice q nq c:=by
     obtain ⟨a,c,e,-⟩:=hh11.fracs
     rw [unhide HFL] at e
     exact ⟨a,c,e⟩
    subst hv11
    have E11:=hide ((unhide E10).trans' hb11)
    have RB11:=hide ((unhide RB).but hb11)
    have S3:=hide (unhide SP w11 _ fs 1 ff tt (unhide E11) hh11.fracs hfl (unhide LF) (by omega) (by omega) (by omega) o3)
    clear hh11 hb11 E10 RB FS10 FS
    go_wp2_with fail
    refine (unhide S3).mono ?_
    rintro e w12 ⟨hb12,hcase⟩
    have E12:=hide ((unhide E11).trans' hb12)
    have RB12:=hide ((unhide RB11).but hb12)
    clear hb12 E11 RB11 S3 SP
    rcases hcase with ⟨-,gD,rfl,hrD⟩ | ⟨hno,-⟩
    ·have RD:Hid (RowR w12 gD n G3):=hrD.congr (fun k hk=>by rw [unhide HG3];exact spread_is yss fs n ff (tt-ff) k)
     have ST:=hide (chStates_any g ny n _ _ w12 (unhide CH w12 (unhide E12)))
     clear hrD
     go_wp2_with fail
     refine (unhide ST).mono ?_
     rintro e w13 ⟨rfl,hb13⟩
     have E13:=hide ((unhide E12).trans' hb13)
     have RB13:=hide ((unhide RB12).but hb13)
     have RD13:=hide ((unhide RD).but hb13)
     obtain ⟨kk,hkk,PK4⟩:=pick_some a5 (n:Int) b5.1 b5.2 (by omega) (by omega)
     have P4:=hide (PK4 w13)
     have hkn:kk<n:=by omega
     clear hb13 E12 RB12 RD ST PK4 hkk
     go_wp2_with fail
     refine (unhide P4).mono ?_
     rintro e w14 ⟨rfl,hb14⟩
     have E14:=hide ((unhide E13).trans' hb14)
     have RB14:=hide ((unhide RB13).but hb14)
     have RD14:=hide ((unhide RD13).but hb14)
     have PR:=hide (prob_any g ny n (chY yss) (chV yss) 0 kk ff tt w14 (unhide CH w14 (unhide E14)) (unhide HNN) (fun j _=>chV_pos _ _) (by omega) hkn (by omega) o3)
     clear hb14 E13 RB13 RD13 P4
     go_wp2_with fail
     refine (unhide PR).mono ?_
     rintro e w15 ⟨sp,xp,yp,pp,rfl,hfp,hb15⟩
     rw [prob_is yss n 0 ff (tt-ff) kk] at hfp
     have bA:But [] w15 (w15.alloc (.cells #[.bool sp,.int .u64 xp,.int .u64 yp,.pointer pp] 41)):=(But.refl _ _).alloc _
     have x22:=BoxAt.new w15 sp xp yp pp _ 41 hfp
     have c22:P4o (w15.alloc (.cells #[.bool sp,.int .u64 xp,.int .u64 yp,.pointer pp] 41)) w15.heap.size 0 sp xp yp pp:=⟨by simp,by simp,by simp,by simp⟩
     have E15:=hide (((unhide E14).trans' hb15).trans' bA)
     have RB15:=hide (((unhide RB14).but hb15).but bA)
     have RD15:=hide (((unhide RD14).but hb15).but bA)
     have FP:=hide (hfp.but bA)
     have HI:=hide (hits_any g ny n (chY yss) (chV yss) 0 kk ff tt _ (unhide CH _ (unhide E15)) (unhide HNN) (fun j _=>chV_pos _ _) (by omega) hkn (by omega) o3)
     have C22:=hide c22
     clear hb15 hfp bA x22 c22 E14 RB14 RD14 PR
     go_wp2_with fail
     refine (unhide HI).mono ?_
     rintro e w16 ⟨sh,xh,yh,ph,rfl,hfh,hb16⟩
     rw [hits_is yss n 0 kk ff (tt-ff)] at hfh
     have bA:But [] w16 (w16.alloc (.cells #[.bool sh,.int .u64 xh,.int .u64 yh,.pointer ph] 41)):=(But.refl _ _).alloc _
     have c24:P4o (w16.alloc (.cells #[.bool sh,.int .u64 xh,.int .u64 yh,.pointer ph] 41)) w16.heap.size 0 sh xh yh ph:=⟨by simp,by simp,by simp,by simp⟩
     have c22:=((unhide C22).but hb16 (by simp)).but bA (by simp)
     have rB:=((unhide RB15).but hb16).but bA
     have rD:=((unhide RD15).but hb16).but bA
     have fP:=((unhide FP).but hb16).but bA
     have fH:=hfh.but bA
     have BF:=hide ((unhide B2).trans' (((unhide E15).trans' hb16).trans' bA))
     clear hb16 hfh bA HI C22 RB15 RD15 FP E15
     go_wp2_with fail
     generalize w16.alloc (.cells #[.bool sh,.int .u64 xh,.int .u64 yh,.pointer ph] 41)=V at *
     obtain ⟨ws,wx,FWH,CWH⟩:=whole_is 1 (by omega) (by omega)
     obtain ⟨hge,hle⟩:=hits_ge (Y:=chM yss) (n:=n) (a:=unitR 0) (k:=kk) (o:=ff) (j:=tt-ff) hkn (fun i _=>unit_pos 0 i) (unit_sum (by omega)) (fun t ht=>unhide HST (ff+t) (by omega))
     have lP:=prob_len (yss:=yss) (si:=0) (o:=ff) (j:=tt-ff) (unhide HNN) (by omega) kk hkn
     have lH:=hits_len (yss:=yss) (si:=0) (kk:=kk) (o:=ff) (j:=tt-ff) (unhide HNN) (by omega)
     have e1:(((1:Int):Rat))=1:=rfl
     obtain ⟨r1,hr1⟩:∃ r1,r1=cmpZ ((((1:Int):Rat)-sgR (missR (chM yss) n (unitR 0) kk ff (tt-ff)) n).num*((ledR (chM yss) n (unitR 0) ff (tt-ff) kk).den:Int)) ((ledR (chM yss) n (unitR 0) ff (tt-ff) kk).num*((((1:Int):Rat)-sgR (missR (chM yss) n (unitR 0) kk ff (tt-ff)) n).den:Int)):=⟨_,rfl⟩
     obtain ⟨r2,hr2⟩:∃ r2,r2=cmpZ ((((1:Int):Rat)-sgR (missR (chM yss) n (unitR 0) kk ff (tt-ff)) n).num*((((1:Int):Rat)).den:Int)) ((((1:Int):Rat)).num*((((1:Int):Rat)-sgR (missR (chM yss) n (unitR 0) kk ff (tt-ff)) n).den:Int)):=⟨_,rfl⟩
     have t1:=cmpZ_tells _ _ r1 hr1
     have t2:=cmpZ_tells _ _ r2 hr2
     have h1:0≤r1:=by
      rcases Int.lt_or_le r1 0 with h | h
      ·have:=t1.1.1 h
       exact absurd hge (Rat.not_le.2 this)
      ·exact h
     have h2:r2≤0:=by
      rcases Int.lt_or_le 0 r2 with h | h
      ·have:=t2.2.1.1 h
       exact absurd hle (Rat.not_le.2 this)
      ·exact h
     have frB:=rB.fracs n (Nat.le_refl _)
     have frD:=rD.fracs n (Nat.le_refl _)
     have lfB:∀ f ∈ (List.range n).map G3,Len f 1000000:=fun f hf=>by
      obtain ⟨k,hk,rfl⟩:=List.mem_map.1 hf
      exact (unhide LG3 k (List.mem_range.1 hk)).mono (by omega)
     have tabV:=TabIs.but (unhide HT) (unhide BF)
     refine meets_region18 18 _ _ V gB gD n w15.heap.size w16.heap.size sh xh yh ph sp xp yp pp ws wx (sgR (atR ((List.range n).map G3)) n) r1 r2 (by simp) (by simp [Act.eval]) (by simp [Act.eval]) (by simp [Act.eval]) (by simp [Act.eval]) (by simp [Act.eval]) (by simp [Act.eval]) (by simp [Act.eval]) (by simp [Act.eval]) c24 c22 h1 h2
      (fun W hb=>likes_eq gB 0 n gD 0 n n _ W (frB.but hb) (frD.but hb) (by omega) lfB (TabIs.but tabV hb))
      (fun W hb=>keepSumL_any gD 0 n n _ W (frD.but hb) (by omega) (fun k hk=>by
       unfold atR
       rw [List.getElem?_map,List.getElem?_range hk]
       exact (unhide LG3 k hk).mono (by omega)) (fun k hk=>by
       refine (len_sgR 15999 _ (fun i=>?_) k).mono (by
        have:k*(15999+1)≤8*16000:=Nat.mul_le_mul (by omega) (by omega)
        omega)
       unfold atR
       rw [List.getElem?_map]
       by_cases hi:i<n
       ·rw [List.getElem?_range hi]
        exact unhide LG3 i hi
       ·rw [List.getElem?_eq_none (by simpa using hi)]
        exact len_zero _ (by omega)))
      CWH
      (fun W hb v hv=>by
       have hone:sgR (atR ((List.range n).map G3)) n=((1:Int):Rat):=by rw [sgR_range];exact unhide SG3
       rw [hone] at hv
       exact like_len v _ ((1:Int):Rat) W hv (FWH W) ((len_int 1 (by decide)).mono (by omega)) (TabIs.but tabV hb))
      (fun W hb=>fracCmp_any _ _ _ _ W (fH.but hb) (fP.but hb) (lH.mono (by omega)) (lP.mono (by omega)) r1 hr1)
      (fun W hb=>fracCmp_any _ _ _ _ W (fH.but hb) (FWH W) (lH.mono (by omega)) ((len_int 1 (by decide)).mono (by omega)) r2 hr2) ?_
     intro w17 v21 hb17
     simp only [putted,List.foldl_cons,List.foldl_nil,Act.put,List.setIfInBounds_toArray,List.set_cons_zero,List.set_cons_succ]
     have BZ:=hide ((unhide BF).trans' hb17)
     clear hb17 BF c22 c24 rB rD fP fH hge hle lP lH hr1 hr2 t1 t2 frB frD lfB tabV FWH CWH
     go_wp2
     go_ret
     exact ⟨rfl,unhide BZ⟩
    ·exact absurd (unhide HOK) hno
   ·exact absurd (unhide OKA) hno
  ·clear hno
   have BF:=hide ((unhide B2).trans' (unhide E9))
   go_wp2
   go_ret
   exact ⟨by first | rfl | simp,unhide BF⟩
 ·have hne:(cc != 0)=true:=by rw [bne_iff_ne];omega
  have hne2:¬ cc=0:=by omega
  have CO3:=hide (fun W (hb:But [] w2 W)=>unhide CO W ((unhide B2).trans' hb))
  clear hno
  go_wp2_with fail
  refine (unhide CO2).mono ?_
  rintro e w3 ⟨rfl,hb3⟩
  have E3:=hide hb3
  clear hb3 CO2
  go_wp2_with fail
  refine (unhide CO3 w3 (unhide E3)).mono ?_
  rintro e w4 ⟨rfl,hb4⟩
  have BF:=hide ((unhide B2).trans' ((unhide E3).trans' hb4))
  clear hb4
  go_wp2
  go_ret
  exact ⟨by first | rfl | simp,unhide BF⟩
end Go.Proofs.YthlnhheblhapgaaGreatDoor

namespace Go.Proofs.YthlnhheblhapgaaGreatDoor
open Go.RowKit
set_option maxHeartbeats 16000000
set_option maxRecDepth 100000
set_option linter.unusedVariables false
theorem chainMeets_any (v0:Value) (rss:List (List (List (Int × Int)))) (v1:Value) (qs:List (Int × Int)) (a2 a3 a4 a5:Int) (m:Int) (w:World) (hv:QyearsAt w v0 rss) (hT:rss.length+tot3 rss rss.length≤2000000) (hq:QsAt w v1 qs) (hf:∀ rs ∈ rss,∀ r ∈ rs,∀ z ∈ r,Fits z) (hfq:∀ z ∈ qs,Fits z)
  (b2:-9223372036854775808≤a2∧a2<9223372036854775808) (b3:-9223372036854775808≤a3∧a3<9223372036854775808) (b4:-9223372036854775808≤a4∧a4<9223372036854775808) (b5:-9223372036854775808≤a5∧a5<9223372036854775808) (hg:ErrVarG w) (htab:Lib.TabIs Tryz.prog w "internal/strconv.uint64pow10" .u64 Lib.pow10Tab) (hm:w.cell? ⟨4,0,none⟩=some (.int .i64 m)) :
  Calls Tryz.prog 3 #[v0,v1,.int .i64 a2,.int .i64 a3,.int .i64 a4,.int .i64 a5] w fun e w'=>e=.returned (.bool true)∧But [] w w':=by
 obtain ⟨q,cap,rfl,-⟩:=id hv
 obtain ⟨ny,hN⟩:∃ ny,ny=rss.length:=⟨_,rfl⟩
 rw [← hN] at hv hT ⊢
 by_cases h3:ny+tot3 rss ny≤300
 ·by_cases h20:qs.length≤20
  ·exact chainMeets_few q ny cap rss v1 qs a2 a3 a4 a5 m w hv hN h3 hq h20 hf hfq b2 b3 b4 b5 hg htab hm
  ·have FW:=hide (few3_any q ny cap rss w hv (by omega))
   rw [decide_eq_true h3] at FW
   obtain ⟨qa,qc,rfl,-,-⟩:=hq
   obtain ⟨nq,hnq⟩:∃ nq,nq=qs.length:=⟨_,rfl⟩
   rw [← hnq] at h20 ⊢
   have h20':(20:Int)<(nq:Int):=by omega
   clear hv hf hfq hg htab hm hT h3 hN hnq
   go_enter Tryz.func3,Tryz.ntmps3
   go_wp2_with fail
   refine (unhide FW).mono ?_
   rintro e w1 ⟨rfl,hb1⟩
   have B1:=hide hb1
   clear hb1 FW
   go_wp2
   go_ret
   exact ⟨rfl,unhide B1⟩
 ·have FW:=hide (few3_any q ny cap rss w hv hT)
  rw [decide_eq_false h3] at FW
  obtain ⟨qa,qc,rfl,-,-⟩:=hq
  clear hv hf hfq hg htab hm hT h3 hN
  go_enter Tryz.func3,Tryz.ntmps3
  go_wp2_with fail
  refine (unhide FW).mono ?_
  rintro e w1 ⟨rfl,hb1⟩
  have B1:=hide hb1
  clear hb1 FW
  go_wp2
  go_ret
  exact ⟨rfl,unhide B1⟩
end Go.Proofs.YthlnhheblhapgaaGreatDoor
