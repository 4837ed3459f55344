/- Out of KP: what needs no more than these -/
import Derived.Test.YtagmkkiagjmimaaGreatDoorYK8
import Derived.Test.YtagmkkiagjmimaaGreatDoorYKK
namespace Go.Proofs.YtagmkkiagjmimaaGreatDoor
set_option linter.unusedVariables false
open Go.Proofs.Tryz
open Go.RowKit
set_option maxHeartbeats 16000000
set_option maxRecDepth 100000
theorem zcf {fs:List Rat} (h:yc fs=0):0<fs.length∧fs.length≤201∧(∀ f ∈ fs,0≤f)∧si fs=1:=by(
 unfold yc at h
 by_cases h1:fs.length<1∨201<fs.length
 ·rw[if_pos h1] at h;simp at h
 ·(
 rw[if_neg h1] at h
 by_cases h2:fs.any (fun f=>decide (f.num<0))=true
 ·rw[if_pos h2] at h;simp at h
 ·(
 rw[if_neg h2] at h
 by_cases h3:si fs=1
 ·(
 refine⟨by omega,by omega,fun f hf=>?_,h3⟩
 have h4:fs.any (fun f=>decide (f.num<0))=false:=by simpa using h2
 rw[List.any_eq_false] at h4
 have:=h4 f hf
 simp at this
 exact this)
 ·rw[if_neg h3] at h;simp at h)))
theorem zel (b off cap n:Nat) (fs:List Rat) (c:Nat) (vch:Value) (ch:Rat) (w:World) (hv:au w (.slice (some ⟨b,off,none⟩) n cap) fs) (hN:n=fs.length) (hck:yc fs=0) (hch:aq w vch ch) (lf:∀ f ∈ fs,Len f c) (hc:c≤100) (lch:Len ch 1000) :
   Calls prog 45 #[.slice (some ⟨b,off,none⟩) n cap,vch] w fun e w'=>But [] w w'∧(((ch≤0∨1<ch)∧e=.returned (.tuple #[.int .i64 0,.iface 33 (.int .i64 2)]))∨(¬ (ch≤0∨1<ch)∧∃ k:Nat,k<n∧e=.returned (.tuple #[.int .i64 (k:Int),.nilIface])∧si (fs.take k)<ch∧¬ si (fs.take (k+1))<ch)):=by(
 obtain⟨hn0,hn1,hpos,hone⟩:=zcf hck
 have CH:=af (fun W (h:But [] w W)=>jm _ fs c W (hv.but h) (by omega) lf hc)
 rw[hck] at CH
 obtain⟨x1,y1,p1,rfl,-⟩:=hch.agg
 generalize hsf:decide (ch.num<0)=s1 at *
 clear hsf
 obtain⟨sg,hsg⟩:∃ sg,sg=ch.num.sign:=⟨_,rfl⟩
 have hs0:sg≤0↔ch≤0:=by
  have h1:ch≤0↔ch.num≤0:=by
   rw[Rat.le_iff]
   simp
  rw[h1,hsg]
  rcases Int.lt_trichotomy ch.num 0 with h | h | h
  ·rw[Int.sign_eq_neg_one_of_neg h];omega
  ·rw[h];decide
  ·rw[Int.sign_eq_one_of_pos h];omega
 have SG:=af (fun W (h:But [] w W)=>ko _ ch W (hch.but h))
 rw[← hsg] at SG
 have bA:But [] w (w.alloc (.cells #[.bool s1,.int .u64 x1,.int .u64 y1,.pointer p1] 27)):=(But.refl _ _).alloc _
 have X3:=af (bf.new w s1 x1 y1 p1 ch 27 hch)
 have c3:P4 (w.alloc (.cells #[.bool s1,.int .u64 x1,.int .u64 y1,.pointer p1] 27)) w.heap.size s1 x1 y1 p1:=⟨by simp,by simp,by simp,by simp⟩
 have C3:=af c3
 have BA:=af bA
 have HS0:=af hs0
 have HV:=af hv
 have HCH:=af hch
 have HN:=af hN
 have HONE:=af hone
 have hnn:n<1000000:=by omega
 have hn0':0<n:=by omega
 clear hv hch bA c3 hs0 hsg hN hone
 go_enter func45,ntmps45
 go_wp2_with fail
 refine (ae CH _ (ae BA)).mono ?_
 rintro e w1 ⟨rfl,hb1⟩
 have B1:=af ((ae BA).trans' hb1)
 have X31:=af ((ae X3).but hb1)
 have C31:=af ((ae C3).but hb1 (by simp))
 clear hb1 CH X3 BA C3
 generalize hg3:w.heap.size=g3 at *
 rw[show zcm 0=.nilIface from rfl]
 go_wp2
 by_cases hp:sg≤0
 ·(
 refine zsq 4 _ _ w1 s1 x1 y1 p1 sg (by simp) g3 (by simp[Act.eval]) hp (ae C31) (fun w' hb=>ae SG w' ((ae B1).trans' hb)) ?_
 intro w2 hb2
 have B2:=af ((ae B1).trans' hb2)
 simp only[bj,List.foldl_cons,List.foldl_nil,Act.put,List.setIfInBounds_toArray,List.set_cons_zero,List.set_cons_succ]
 clear hb2
 go_wp2
 exact bodyPost_ret (v:=.tuple #[.int .i64 0,.iface 33 (.int .i64 2)]) (by simp[results,results45,go_sem]) rfl ⟨ae B2,.inl ⟨.inl ((ae HS0).1 hp),rfl⟩⟩)
 ·(
 obtain⟨ws,wx,FW,CW⟩:=zbq 1 (by omega) (by omega)
 obtain⟨r,hr⟩:∃ r,r=zbk (ch.num*((((1:Int):Rat)).den:Int)) ((((1:Int):Rat)).num*(ch.den:Int)):=⟨_,rfl⟩
 have hgt:=(zef ch ((1:Int):Rat) r hr).2.1
 refine znu 4 _ _ w1 s1 x1 y1 p1 sg ws wx r (by simp) g3 (by simp[Act.eval]) hp (ae C31) (fun w' hb=>ae SG w' ((ae B1).trans' hb)) CW (fun w' hb=>zaz _ _ ch ((1:Int):Rat) w' ((ae HCH).but ((ae B1).trans' hb)) (FW w') (lch.mono (by omega)) ((zan 1 (by decide)).mono (by omega)) r hr) ?_
 intro w2 hb2
 have B2:=af ((ae B1).trans' hb2)
 have X32:=af ((ae X31).but hb2)
 simp only[bj,List.foldl_cons,List.foldl_nil,Act.put,List.setIfInBounds_toArray,List.set_cons_zero,List.set_cons_succ]
 have HGT:=af hgt
 clear hb2 hgt hr X31 C31 B1 FW CW
 by_cases hr0:0<r
 ·rw[decide_eq_true hr0]
  go_wp2
  exact bodyPost_ret (v:=.tuple #[.int .i64 0,.iface 33 (.int .i64 2)]) (by simp[results,results45,go_sem]) rfl ⟨ae B2,.inl ⟨.inr ((ae HGT).1 hr0),rfl⟩⟩
 ·(
 rw[decide_eq_false hr0]
 have hno:¬ (ch≤0∨1<ch):=fun h=>h.elim (fun h=>hp ((ae HS0).2 h)) (fun h=>hr0 ((ae HGT).2 h))
 have HNO:=af hno
 clear hno HGT
 go_wp2
 obtain⟨sr,xr,yr,pr,r0,hfr⟩:=((ae HV).but (ae B2)).get 0 (by omega)
 rw[Nat.zero_mul,Nat.add_zero] at r0
 refine znt 6 _ _ w2 b off n cap w2.heap.size sr xr yr pr _ (by simp) (Nat.le_refl _) (by simp[Act.eval]) hn0' hnn r0 hfr ?_
 intro w3 g8 s8 x8 y8 p8 hb3 hg8 hP8 hz8 hf8
 simp only[bj,List.foldl_cons,List.foldl_nil,Act.put,List.setIfInBounds_toArray,List.set_cons_zero,List.set_cons_succ]
 have hP:=ax w3 g8 s8 x8 y8 p8
 have x8':bf (qw w3 g8 s8 x8 y8 p8) g8 (fs[0]?.getD 0):=bf.put (f:=0) ⟨⟨false,0,0,none,hP8,yw _⟩,hz8⟩ hf8
 have hl3:g3<w2.heap.size:=(ae X32).lt
 have x3':bf (qw w3 g8 s8 x8 y8 p8) g3 ch:=((ae X32).but hb3).beside hP (by simp;omega) (fun g hg=>by simp at hg;subst hg;exact⟨_,hP8.1⟩)
 have bN:But [] w (qw w3 g8 s8 x8 y8 p8):=((ae B2).trans' hb3).trans hP (fun x hx=>by simp at hx;subst hx;exact .inr (by have:=(ae B2).size;omega))
 have o8:w.heap.size≤g8:=by have:=(ae B2).size;omega
 have n38:g3≠g8:=by omega
 have X8:=af x8'
 have X3':=af x3'
 have BN:=af bN
 generalize qw w3 g8 s8 x8 y8 p8=V at *
 clear x8' x3' bN hP hb3 hg8 hP8 hz8 hf8 r0 hfr X32 B2 hl3
 go_wp2
 go_loopw [7] (fun iv wr=>∃ k:Nat,k<n∧iv=.int .i64 (k:Int)∧Hid (bf wr g8 (si (fs.take (k+1)))∧bf wr g3 ch∧si (fs.take k)<ch∧But [] w wr)) (fun iv _=>n-(intOf iv).toNat)
 case atStart =>(
 refine⟨0,hn0',rfl,?_,ae X3',?_,ae BN⟩
 ·have e:=zbo fs 0 hn0
  have e0:si (fs.take 0)=0:=rfl
  rw[e,e0,Rat.zero_add]
  exact ae X8
 ·show (0:Rat)<ch
  exact Rat.not_le.1 (fun h=>ae HNO (.inl h)))
 case round =>(
 obtain⟨k,hk,rfl,HI⟩:=hrel
 rename World=>wr
 clear X8 X3' BN
 have hkl:k<fs.length:=by have:=ae HN;omega
 obtain⟨⟨⟨t8,a8,b8,q8,⟨d0,d1,d2,d3⟩,hf8⟩,z8⟩,⟨⟨t3,a3,b3,q3,⟨c0,c1,c2,c3⟩,hf3⟩,z3⟩,hbel,hbw⟩:=ae HI
 obtain⟨r,hr⟩:∃ r,r=zbk ((si (fs.take (k+1))).num*(ch.den:Int)) (ch.num*((si (fs.take (k+1))).den:Int)):=⟨_,rfl⟩
 have hlt:=(zef (si (fs.take (k+1))) ch r hr).1
 have ls:=zfi c fs lf (k+1) (by omega)
 have hkc:(k+1)*(c+1)≤201*101:=Nat.mul_le_mul (by omega) (by omega)
 have CM:=af (zaz _ _ _ ch wr hf8 hf3 (ls.mono (by omega)) (lch.mono (by omega)) r hr)
 have HLT:=af hlt
 have HF8:=af hf8
 clear hlt hr hf8 hf3 hbel hbw ls
 go_wp2_with fail
 refine (ae CM).mono ?_
 rintro e w4 ⟨rfl,hb4⟩
 have J8:=af ((ae HI).1.but hb4)
 have J3:=af ((ae HI).2.1.but hb4)
 have JB:=af ((ae HI).2.2.2.trans' hb4)
 have JL:=af (ae HI).2.2.1
 clear hb4 CM d0 d1 d2 d3 c0 c1 c2 c3 z8 z3 HI HF8
 by_cases hr1:r<0
 ·(
 have hk1:k+1<n:=by
  rcases Nat.lt_or_ge (k+1) n with h | h
  ·exact h
  ·exfalso
   have hlt:=(ae HLT).1 hr1
   rw[List.take_of_length_le (by have:=ae HN;omega),ae HONE] at hlt
   exact ae HNO (.inr hlt)
 go_wp2
 rw[show ((k:Int)+1)=((k+1:Nat):Int) from by omega]
 obtain⟨⟨t8',a8',b8',q8',c8,hf8⟩,z8⟩:=ae J8
 obtain⟨sr,xr,yr,pr,r0,hfr⟩:=((ae HV).but (ae JB)).get (k+1) hk1
 have hk1l:k+1<fs.length:=by have:=ae HN;omega
 have lr:Len (fs[k+1]?.getD 0) c:=by rw[List.getElem?_eq_getElem hk1l];exact lf _ (List.getElem_mem hk1l)
 have ls:=zfi c fs lf (k+1) (by omega)
 refine zns 9 _ _ w4 b off n cap (k+1) t8' a8' b8' q8' sr xr yr pr _ _ g8 (by simp) (by simp[Act.eval]) c8 z8 (by simp[Act.eval]) (by simp[Act.eval]) hk1 hnn c8 r0 (fun w' hb=>mg 200000 200000 (by omega) _ _ _ _ w' (hf8.but hb) (hfr.but hb) (ls.mono (by omega)) (lr.mono (by omega))) ?_
 intro w5 s9 x9 y9 p9 hb5 hf9
 simp only[bj,List.foldl_cons,List.foldl_nil,Act.put,List.setIfInBounds_toArray,List.set_cons_zero,List.set_cons_succ]
 rw[← zbo fs (k+1) hk1l] at hf9
 have hP:=ax w5 g8 s9 x9 y9 p9
 have M8:=af (((ae J8).but hb5).put hf9)
 have M3:=af (((ae J3).but hb5).beside hP (by simp;omega) (fun g hg=>by simp at hg;subst hg;exact ((ae J8).but hb5).bool))
 have MB:=af (((ae JB).trans' hb5).trans hP (fun x hx=>by simp at hx;subst hx;exact .inr o8))
 have ML:=af ((ae HLT).1 hr1)
 generalize qw w5 g8 s9 x9 y9 p9=V5 at *
 clear hP hf9 hb5 c8 r0 hf8 hfr z8 J8 J3 JB JL ls lr HLT
 go_wp2
 exact⟨⟨k+1,hk1,rfl,ae M8,ae M3,ae ML,ae MB⟩,by simp[intOf];omega⟩)
 ·go_wp2
  exact bodyPost_ret (v:=.tuple #[.int .i64 (k:Int),.nilIface]) (by simp[results,results45,go_sem]) rfl ⟨ae JB,.inr ⟨ae HNO,k,hk,rfl,ae JL,fun h=>by have:=(ae HLT).2 h;omega⟩⟩))))
end Go.Proofs.YtagmkkiagjmimaaGreatDoor
