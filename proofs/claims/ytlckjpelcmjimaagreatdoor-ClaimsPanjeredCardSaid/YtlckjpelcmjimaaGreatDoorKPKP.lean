/- The least amount that is not gone beyond -/
import Derived.RangeFuncNested
import Derived.RangeFuncBound
import Derived.RangeFuncCalls
import Derived.RangeFuncLeaves
import Derived.Shelf.Abstract
import Derived.Shelf.RegionOpen
import Derived.WalkKit
import Derived.OwnWalkIn
import Derived.TacticsInMore
import Derived.LoopNIn
import Derived.LoopIn
import Derived.Test.YtlckjpelcmjimaaGreatDoorProg
import Derived.Laws.IdiomCopy
import Derived.LaidEql
import Derived.Stop.Asserts
import Derived.RowKitTokens
import Derived.Test.YtlckjpelcmjimaaGreatDoorKPKI
import Derived.Test.YtlckjpelcmjimaaGreatDoorKPPK
namespace Go.Proofs.YtlckjpelcmjimaaGreatDoor
open Go.RowKit
set_option maxHeartbeats 16000000
set_option maxRecDepth 100000
theorem chk_some {fs:List Rat} (h:chkE fs=0):0<fs.length∧fs.length≤201∧(∀ f ∈ fs,0≤f)∧sumR fs=1:=by
 unfold chkE at h
 by_cases h1:fs.length<1∨201<fs.length
 ·rw [if_pos h1] at h;simp at h
 ·rw [if_neg h1] at h
  by_cases h2:fs.any (fun f=>decide (f.num<0))=true
  ·rw [if_pos h2] at h;simp at h
  ·rw [if_neg h2] at h
   by_cases h3:sumR fs=1
   ·refine ⟨by omega,by omega,fun f hf=>?_,h3⟩
    have h4:fs.any (fun f=>decide (f.num<0))=false:=by simpa using h2
    rw [List.any_eq_false] at h4
    have:=h4 f hf
    simp at this
    exact this
   ·rw [if_neg h3] at h;simp at h
theorem sumR_is (fs:List Rat):∀ k,k≤fs.length→sumR (fs.take k)=sgR (fun j=>fs[j]?.getD 0) k
 | 0,_=>rfl
 | k+1,h=>by
  rw [sumR_take fs k (by omega),sumR_is fs k (by omega)]
  rfl
theorem sumR_all (fs:List Rat):sumR fs=sgR (fun j=>fs[j]?.getD 0) fs.length:=by
 have h:=sumR_is fs fs.length (Nat.le_refl _)
 rw [List.take_length] at h
 exact h
theorem chk_make {fs:List Rat} (h0:0<fs.length) (h1:fs.length≤201) (hp:∀ f ∈ fs,0≤f) (hs:sumR fs=1):chkE fs=0:=by
 unfold chkE
 rw [if_neg (by omega),if_neg,if_pos hs]
 rw [List.any_eq_true]
 rintro ⟨f,hf,hd⟩
 have h2:=Rat.num_nonneg.2 (hp f hf)
 have h3:=of_decide_eq_true hd
 omega
theorem greatest_is {fs:List Rat} (h:chkE fs=0):∃ m,m<fs.length∧(fs[m]?.getD 0).num≠0∧∀ j,m<j→j<fs.length→(fs[j]?.getD 0).num=0:=by
 obtain ⟨h0,h1,hp,hs⟩:=chk_some h
 have key:∀ d,d≤fs.length→(∃ m,m<fs.length∧(fs[m]?.getD 0).num≠0∧∀ j,m<j→j<fs.length→(fs[j]?.getD 0).num=0)∨∀ j,fs.length-d≤j→j<fs.length→(fs[j]?.getD 0).num=0:=by
  intro d
  induction d with
  | zero=>exact fun _=>.inr (fun j h1 h2=>by omega)
  | succ d ih =>
   intro hd
   rcases ih (by omega) with h | h
   ·exact .inl h
   ·by_cases hz:(fs[fs.length-(d+1)]?.getD 0).num=0
    ·refine .inr (fun j h1 h2=>?_)
     by_cases e:j=fs.length-(d+1)
     ·rw [e];exact hz
     ·exact h j (by omega) h2
    ·exact .inl ⟨fs.length-(d+1),by omega,hz,fun j h1 h2=>h j (by omega) h2⟩
 rcases key fs.length (Nat.le_refl _) with h | h
 ·exact h
 ·exfalso
  rw [sumR_all] at hs
  rw [sgR_congr _ (fun _=>0) fs.length (fun k hk=>Rat.num_eq_zero.1 (h k (by omega) hk)),sgR_zero] at hs
  exact absurd hs (by decide)
theorem rat_den (f:Rat):f*((f.den:Int):Rat)=((f.num:Int):Rat):=by
 have h0:((f.den:Int):Rat)≠0:=fun h=>by
  have h2:((f.den:Int):Rat)=((0:Int):Rat):=h
  have:=Rat.intCast_inj.1 h2
  have:=den_pos f
  omega
 have h2:=Rat.div_mul_cancel (a:=((f.num:Int):Rat)) h0
 rw [← Rat.divInt_eq_div,Rat.num_divInt_den] at h2
 exact h2
theorem com_mult:∀ (fs:List Rat) (U:Nat),∃ k,comN U fs=U*k
 | [],U=>⟨1,by rw [Nat.mul_one];rfl⟩
 | f::fs,U=>by
  obtain ⟨k,hk⟩:=com_mult fs (comStep U f)
  exact ⟨(f*(((U:Nat):Int):Rat)).den*k,by
   show comN (comStep U f) fs=_
   rw [hk]
   unfold comStep
   rw [Nat.mul_assoc]⟩
theorem com_whole:∀ (fs:List Rat) (U:Nat) (f:Rat),f ∈ fs→∃ z:Int,f*(((comN U fs:Nat):Int):Rat)=((z:Int):Rat)
 | [],_,f,h=>by simp at h
 | g::fs,U,f,h=>by
  rcases List.mem_cons.1 h with rfl | h2
  ·obtain ⟨k,hk⟩:=com_mult fs (comStep U f)
   refine ⟨(f*(((U:Nat):Int):Rat)).num*(k:Int),?_⟩
   show f*(((comN (comStep U f) fs:Nat):Int):Rat)=_
   have e:=rat_den (f*(((U:Nat):Int):Rat))
   rw [hk]
   unfold comStep
   rw [Int.natCast_mul,Int.natCast_mul,Rat.intCast_mul,Rat.intCast_mul,Rat.intCast_mul,← e]
   grind
  ·exact com_whole fs (comStep U g) f h2
theorem com_pos:∀ (fs:List Rat) (U:Nat),0<U→0<comN U fs
 | [],_,h=>h
 | f::fs,U,h=>com_pos fs (comStep U f) (Nat.mul_pos h (den_pos _))
theorem like_len (va vb:Value) (f:Rat) (w:World) (ha:am w va f) (hb:am w vb f) (hl:Len f 1000000) (htab:Lib.TabIs Tryz.prog w "internal/strconv.uint64pow10" .u64 Lib.pow10Tab) :
  Calls Tryz.prog 21 #[va,vb] w fun e w'=>e=.returned (.bool true)∧But [] w w':=by
 have hl2:Len f 33554431:=⟨Nat.le_trans hl.1 (by omega),Nat.le_trans hl.2 (by omega)⟩
 obtain ⟨t,ht⟩:∃ t,t=fracTxt (decide (f.num<0)) f.num.natAbs f.den:=⟨_,rfl⟩
 have CM:Hid (∀ W,But [] w W→Calls Tryz.prog 25 #[va,vb] W fun e w'=>e=.returned (.int .i64 0)∧But [] W w'):=fun W h=>fracCmp_any va vb f f W (ha.but h) (hb.but h) hl2 hl2 0 (by show _=_;simp [cmpZ])
 have TA:Hid (∀ W,But [] w W→Calls Tryz.prog 59 #[va] W fun e w'=>e=.returned (.string t)∧But [] W w'):=fun W h=>fracText_len va f W (ha.but h) hl (TabIs.but htab h) t ht
 have TB:Hid (∀ W,But [] w W→Calls Tryz.prog 59 #[vb] W fun e w'=>e=.returned (.string t)∧But [] W w'):=fun W h=>fracText_len vb f W (hb.but h) hl (TabIs.but htab h) t ht
 obtain ⟨x1,y1,p1,rfl,-⟩:=ha.agg
 obtain ⟨x2,y2,p2,rfl,-⟩:=hb.agg
 clear ha hb hl hl2 ht htab
 generalize hs:decide (f.num<0)=s at *
 clear hs
 obtain ⟨W,hW⟩:∃ W,W=((w.alloc (.cells #[.bool s,.int .u64 x1,.int .u64 y1,.pointer p1] 29)).alloc (.cells #[.bool s,.int .u64 x2,.int .u64 y2,.pointer p2] 29)):=⟨_,rfl⟩
 obtain ⟨tA,tB,-,hB⟩:=two_new w W _ _ _ hW
 have a0:=tA 0
 have a1:=tA 1
 have a2:=tA 2
 have a3:=tA 3
 have b0:=tB 0
 have b1:=tB 1
 have b2:=tB 2
 have b3:=tB 3
 simp only [List.getElem?_toArray,List.getElem?_cons_zero,List.getElem?_cons_succ] at a0 a1 a2 a3 b0 b1 b2 b3
 clear tA tB
 have HW:=af hW
 have HB:=af hB
 clear hW hB
 go_enter Tryz.func21,Tryz.ntmps21
 go_wp2
 rw [← ae HW]
 obtain ⟨ga,hga⟩:∃ ga,ga=w.heap.size:=⟨_,rfl⟩
 obtain ⟨gb,hgb⟩:∃ gb,gb=w.heap.size+1:=⟨_,rfl⟩
 rw [← hga] at a0 a1 a2 a3
 rw [← hgb] at b0 b1 b2 b3
 rw [← hgb,← hga]
 clear hga hgb HW
 go_region_held (fun w'=>w'.cell? ⟨ga,0,none⟩=some (.bool s)∧w'.cell? ⟨ga,1,none⟩=some (.int .u64 x1)∧w'.cell? ⟨ga,2,none⟩=some (.int .u64 y1)∧w'.cell? ⟨ga,3,none⟩=some (.pointer p1)∧w'.cell? ⟨gb,0,none⟩=some (.bool s)∧w'.cell? ⟨gb,1,none⟩=some (.int .u64 x2)∧w'.cell? ⟨gb,2,none⟩=some (.int .u64 y2)∧w'.cell? ⟨gb,3,none⟩=some (.pointer p2)) (go_keep) (first
  | (go_at_call 59;have hchk:=B2;clear hchk;refine (ae TB _ (by first | exact (ae HB).trans' B2 | exact ((ae HB).trans' B2).drew)).mono ?_;rintro e w3 ⟨rfl,hc3⟩;have B3:But [] W w3:=(by first | exact B2.trans' hc3 | exact (B2.drew).trans' hc3);clear hc3;have a0_3:=B3.ag a0 (by simp);have a1_3:=B3.ag a1 (by simp);have a2_3:=B3.ag a2 (by simp);have a3_3:=B3.ag a3 (by simp);have b0_3:=B3.ag b0 (by simp);have b1_3:=B3.ag b1 (by simp);have b2_3:=B3.ag b2 (by simp);have b3_3:=B3.ag b3 (by simp);clear a0_2 a1_2 a2_2 a3_2 b0_2 b1_2 b2_2 b3_2)
  | (go_at_call 59;have hchk:=B1;clear hchk;refine (ae TA _ (by first | exact (ae HB).trans' B1 | exact ((ae HB).trans' B1).drew)).mono ?_;rintro e w2 ⟨rfl,hc2⟩;have B2:But [] W w2:=(by first | exact B1.trans' hc2 | exact (B1.drew).trans' hc2);clear hc2;have a0_2:=B2.ag a0 (by simp);have a1_2:=B2.ag a1 (by simp);have a2_2:=B2.ag a2 (by simp);have a3_2:=B2.ag a3 (by simp);have b0_2:=B2.ag b0 (by simp);have b1_2:=B2.ag b1 (by simp);have b2_2:=B2.ag b2 (by simp);have b3_2:=B2.ag b3 (by simp);clear a0_1 a1_1 a2_1 a3_1 b0_1 b1_1 b2_1 b3_1)
  | (go_at_call 25;refine (ae CM _ (by first | exact ae HB | exact (ae HB).drew)).mono ?_;rintro e w1 ⟨rfl,hc1⟩;have B1:But [] W w1:=(by first | exact hc1 | exact (But.refl _ _).drew.trans' hc1);clear hc1;have a0_1:=B1.ag a0 (by simp);have a1_1:=B1.ag a1 (by simp);have a2_1:=B1.ag a2 (by simp);have a3_1:=B1.ag a3 (by simp);have b0_1:=B1.ag b0 (by simp);have b1_1:=B1.ag b1 (by simp);have b2_1:=B1.ag b2 (by simp);have b3_1:=B1.ag b3 (by simp)))
 have HB3:Hid (But [] w w3):=(ae HB).trans' B3
 clear B1 B2 B3
 go_wp2
 go_ret
 exact ⟨rfl,ae HB3⟩
theorem fits_lenK {qs:List (Int × Int)} (hf:∀ q ∈ qs,Fits q):∀ r ∈ qs.map qf,Len r 1:=fun r hr=>by
 obtain ⟨q,hq,rfl⟩:=List.mem_map.1 hr
 obtain ⟨-,-,-,h,-⟩:=plainF_at q (hf q hq)
 exact h
theorem plainLaw_any (v:Value) (qs:List (Int × Int)) (w:World) (hq:QsAt w v qs) (hf:∀ q ∈ qs,Fits q) (hn:qs.length≤1000) :
  Calls Tryz.prog 13 #[v] w fun e w'=>∃ v',e=.returned v'∧an w' v' (qs.map qf)∧But [] w w':=by
 have FS:=af (plainFs_any v qs w hq hf hn)
 obtain ⟨a,cap,rfl,-,-⟩:=hq
 clear hf
 go_enter Tryz.func13,Tryz.ntmps13
 go_wp2_with fail
 refine (ae FS).mono ?_
 rintro e w1 ⟨v',vs,rfl,hh,hb⟩
 have H1:=af hh
 have B1:=af hb
 clear hh hb
 go_wp2
 go_ret
 exact ⟨_,rfl,(ae H1).fracs,ae B1⟩
theorem likes_eq (b off cap b2 of2 c2 n:Nat) (fs:List Rat) (w:World) (ha:an w (.slice (some ⟨b,off,none⟩) n cap) fs) (hb:an w (.slice (some ⟨b2,of2,none⟩) n c2) fs) (hn:n≤1000) (lf:∀ f ∈ fs,Len f 1000000) (htab:Lib.TabIs Tryz.prog w "internal/strconv.uint64pow10" .u64 Lib.pow10Tab) :
  Calls Tryz.prog 16 #[.slice (some ⟨b,off,none⟩) n cap,.slice (some ⟨b2,of2,none⟩) n c2] w fun e w'=>e=.returned (.bool true)∧But [] w w':=by
 have LA:=af (fun k=>len_at lf (by omega) k)
 have HA:=af ha
 have HB:=af hb
 have HT:=af htab
 clear ha hb lf htab
 go_enter Tryz.func16,Tryz.ntmps16
 go_wp2
 go_loopw [5] (fun iv wr=>∃ k:Nat,k≤n∧iv=.int .i64 (k:Int)∧Hid (But [] w wr)) (fun iv _=>n-(intOf iv).toNat)
 case atStart=>exact ⟨0,Nat.zero_le _,rfl,But.refl _ _⟩
 case round =>
  obtain ⟨k,hk,rfl,HI⟩:=hrel
  rename World=>wr
  by_cases hlt:k<n
  ·go_wp2
   obtain ⟨s1,x1,y1,p1,r1,hf1⟩:=((ae HA).but (ae HI)).get k hlt
   obtain ⟨s2,x2,y2,p2,r2,hf2⟩:=((ae HB).but (ae HI)).get k hlt
   refine likes_region 6 _ _ wr b off n cap b2 of2 c2 k s1 x1 y1 p1 s2 x2 y2 p2 (by simp) (by simp [Act.eval]) (by simp [Act.eval]) (by simp [Act.eval]) hlt (by omega) r1 r2 (fun w' hb=>like_len _ _ (fs[k]?.getD 0) w' (hf1.but hb) (hf2.but hb) (ae LA k) (TabIs.but (ae HT) ((ae HI).trans' hb))) ?_
   intro w2 hb2
   simp only [bb,List.foldl_cons,List.foldl_nil,Act.put,List.setIfInBounds_toArray,List.set_cons_zero,List.set_cons_succ]
   have JB:=af ((ae HI).trans' hb2)
   clear hb2 r1 r2 hf1 hf2 HI
   go_wp2
   exact ⟨⟨k+1,by omega,by go_num,ae JB⟩,by simp [intOf];omega⟩
  ·obtain rfl:k=n:=by omega
   go_wp2
   go_ret
   exact ⟨rfl,ae HI⟩
end Go.Proofs.YtlckjpelcmjimaaGreatDoor
