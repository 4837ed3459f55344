/- Whether a law may be, as the Go text of  -/
import Derived.Test.YtagmkkiagjmimaaGreatDoorYK5r
import Derived.Test.YtagmkkiagjmimaaGreatDoorYOGr
namespace Go.Proofs.YtagmkkiagjmimaaGreatDoor
set_option linter.unusedVariables false
open Go.Proofs.Tryz
open Go.RowKit
set_option maxHeartbeats 16000000
set_option maxRecDepth 100000
def si (fs:List Rat):Rat:=fs.foldl (fun s f=>s+f) 0
theorem zbo (fs:List Rat) (k:Nat) (hk:k<fs.length):si (fs.take (k+1))=si (fs.take k)+fs[k]?.getD 0:=by(
 unfold si
 rw[List.take_add_one,List.getElem?_eq_getElem hk,List.foldl_append]
 rfl)
theorem zfi (c:Nat) (fs:List Rat) (h:∀ f ∈ fs,Len f c):∀ k,k≤fs.length→Len (si (fs.take k)) (k*(c+1)+1)
 | 0,_=>by
  rw[List.take_zero]
  exact zfh _ (by omega)
 | k+1,hk=>by
  have ih:=zfi c fs h k (by omega)
  rw[zbo fs k (by omega),List.getElem?_eq_getElem (by omega)]
  exact zhx ih (h _ (List.getElem_mem (by omega))) _ (by rw[Nat.succ_mul];omega)
def yc (fs:List Rat):Int:=if fs.length<1∨201<fs.length then 4 else if fs.any (fun f=>decide (f.num<0)) then 1 else if si fs=1 then 0 else 10
theorem jm (v:Value) (fs:List Rat) (c:Nat) (w:World) (hv:au w v fs) (hn:fs.length≤1000) (lf:∀ f ∈ fs,Len f c) (hc:c≤100) :
   Calls prog 43 #[v] w fun e w'=>e=.returned (zcm (yc fs))∧But [] w w':=by(
 obtain⟨q,cap,rfl,hcap,-⟩:=id hv
 obtain⟨n,hN⟩:∃ n,n=fs.length:=⟨_,rfl⟩
 rw[← hN] at hn hcap ⊢
 rw[← hN] at hv
 have HV:=af hv
 have HN:=af hN
 clear hv hN
 obtain⟨ce,hce⟩:∃ ce,ce=yc fs:=⟨_,rfl⟩
 rw[← hce]
 have HCE:=af hce
 clear hce
 go_enter func43,ntmps43
 by_cases h0:n<1
 ·(
 obtain rfl:n=0:=by omega
 have e4:ce=4:=by rw[ae HCE];unfold yc;rw[if_pos (.inl (by have:=ae HN;omega))]
 subst e4
 go_wp2
 go_ret
 exact⟨rfl,But.refl _ _⟩)
 ·(
 by_cases h1:201<n
 ·(
 have e4:ce=4:=by rw[ae HCE];unfold yc;rw[if_pos (.inr (by have:=ae HN;omega))]
 subst e4
 go_wp2
 go_ret
 exact⟨rfl,But.refl _ _⟩)
 ·(
 go_wp2
 have x3:=bf.new w false 0 0 none 0 27 (yw _)
 have bV:But [] w (w.alloc (.cells #[.bool false,.int .u64 0,.int .u64 0,.pointer none] 27)):=(But.refl _ _).alloc _
 have X3:=af x3
 have BV:=af bV
 clear x3 bV
 have q3:w.heap.size≤w.heap.size:=Nat.le_refl _
 generalize hg3:w.heap.size=g3 at X3
 have Q3:Hid (w.heap.size≤g3):=by show _≤_;omega
 clear hg3 q3
 generalize w.alloc (.cells #[.bool false,.int .u64 0,.int .u64 0,.pointer none] 27)=V at *
 go_loopw [17] (fun iv wr=>∃ k:Nat,k≤n∧iv=.int .i64 (k:Int)∧Hid ((∀ f ∈ fs.take k,¬ f.num<0)∧bf wr g3 (si (fs.take k))∧But [] w wr)) (fun iv _=>n-(intOf iv).toNat)
 case atStart=>exact⟨0,Nat.zero_le _,rfl,fun f hf=>by simp at hf,ae X3,ae BV⟩
 case round =>(
 obtain⟨k,hk,rfl,HI⟩:=hrel
 rename World=>wr
 clear X3 BV
 by_cases hlt:k<n
 ·(
 have hkl:k<fs.length:=by have:=ae HN;omega
 have hfx:=(ae HV).but (ae HI).2.2
 rcases hfx.open with ⟨er,-⟩|⟨-,rb,roff,rcap2,er,-,-⟩
 ·rw[er] at hkl
  simp at hkl
 simp only[Value.slice.injEq] at er
 obtain⟨rfl,-,rfl⟩:=er
 obtain⟨sr,xr,yr,pr,⟨r0,r1,r2,r3⟩,hfr⟩:=hfx.get k hlt
 obtain⟨f,hff⟩:∃ f,f=fs[k]?.getD 0:=⟨_,rfl⟩
 rw[← hff] at hfr
 have hmem:f ∈ fs:=by rw[hff,List.getElem?_eq_getElem hkl];exact List.getElem_mem hkl
 have bA:But [] wr (wr.alloc (.cells #[.bool sr,.int .u64 xr,.int .u64 yr,.pointer pr] 27)):=(But.refl _ _).alloc _
 have BA:=af bA
 have x5:=bf.new wr sr xr yr pr _ 27 hfr
 have X5:=af x5
 have SG:=af (fun W (h:But [] wr W)=>ko _ f W (hfr.but h))
 have HFR:=af hfr
 have HFF:=af hff
 clear hfx hfr bA x5 hff
 by_cases hneg:f.num<0
 ·(
 have e1:ce=1:=by
  rw[ae HCE];unfold yc
  rw[if_neg (by have:=ae HN;omega),if_pos (List.any_eq_true.2 ⟨f,hmem,decide_eq_true hneg⟩)]
 subst e1
 rw[Int.sign_eq_neg_one_of_neg hneg] at SG
 go_wp2_with fail
 refine (ae SG _ (ae BA)).mono ?_
 rintro e w1 ⟨rfl,hb1⟩
 have B1:Hid (But [] w w1):=((ae HI).2.2.trans' (ae BA)).trans' hb1
 clear hb1
 go_wp2
 go_ret
 exact⟨rfl,ae B1⟩)
 ·(
 have hsg:0≤f.num.sign:=by
  rcases Int.lt_trichotomy f.num 0 with h | h | h
  ·omega
  ·rw[h];decide
  ·rw[Int.sign_eq_one_of_pos h];decide
 obtain⟨sg,hsgn⟩:∃ sg,sg=f.num.sign:=⟨_,rfl⟩
 rw[← hsgn] at SG hsg
 clear hsgn
 go_wp2_with fail
 refine (ae SG _ (ae BA)).mono ?_
 rintro e w1 ⟨rfl,hb1⟩
 have B01:=af ((ae BA).trans' hb1)
 have X51:=af ((ae X5).but hb1)
 have X31:=af ((ae HI).2.1.but (ae B01))
 have B1:=af ((ae HI).2.2.trans' (ae B01))
 have L5:g3<wr.heap.size:=(ae HI).2.1.lt
 clear hb1 SG X5 r0 r1 r2 r3
 generalize wr.heap.size=g5 at *
 obtain⟨⟨t3,a3,b3,q3,⟨c0,c1,c2,c3⟩,hf3⟩,z3⟩:=ae X31
 obtain⟨⟨t5,a5,b5,q5,⟨d0,d1,d2,d3⟩,hf5⟩,-⟩:=ae X51
 have ls:=zfi c fs lf k (by omega)
 have hkc:k*(c+1)≤1000*101:=Nat.mul_le_mul (by omega) (by omega)
 have AD:=af (zfl (mg 200000 200000 (by omega) _ _ _ _ w1 hf3 hf5 (ls.mono (by omega)) ((lf f hmem).mono (by omega))))
 clear hf3 hf5 ls hkc X51
 go_wp2_with fail
 refine (ae AD).mono ?_
 rintro e w2 ⟨s7,x7,y7,p7,rfl,hf7,hb7⟩
 have stp:=zbo fs k hkl
 rw[← ae HFF] at stp
 rw[← stp] at hf7
 have l31:g3<w1.heap.size:=ai c0
 have z3':∀ j,w2.frozen? ⟨g3,j,none⟩=false:=fun j=>(hb7.frozen (p:=⟨g3,j,none⟩) l31 (by simp)).trans (z3 j)
 replace c0:=hb7.ag c0 (by simp)
 replace c1:=hb7.ag c1 (by simp)
 replace c2:=hb7.ag c2 (by simp)
 replace c3:=hb7.ag c3 (by simp)
 have D3:=af ((ae X31).but hb7)
 have B2:=af ((ae B1).trans' hb7)
 have HF7:=af hf7
 clear hf7 hb7 AD d0 d1 d2 d3 X31 B1 B01 z3 stp
 go_wp2
 have hP:=ax w2 g3 s7 x7 y7 p7
 refine⟨⟨k+1,by omega,by go_num,fun f' hf'=>?_,(ae D3).put (ae HF7),(ae B2).trans hP (fun x hx=>by simp at hx;subst hx;exact .inr (ae Q3))⟩,by simp[intOf];omega⟩
 rw[List.take_add_one,List.getElem?_eq_getElem hkl] at hf'
 rcases List.mem_append.1 hf' with h1 | h1
 ·have h2:=(ae HI).1 f' h1
  omega
 ·(
 simp at h1
 rw[h1]
 have:=ae HFF
 rw[List.getElem?_eq_getElem hkl,Option.getD_some] at this
 rw[← this]
 omega)))
 ·(
 obtain rfl:k=n:=by omega
 have hall:fs.take k=fs:=by rw[ae HN,List.take_length]
 obtain⟨hpos,⟨⟨t3,a3,b3,q3,c3,hf3⟩,z3⟩,hbw⟩:=ae HI
 rw[hall] at hpos hf3
 obtain⟨ws,wx,FW,CW⟩:=zbq 1 (by omega) (by omega)
 obtain⟨r,hr⟩:∃ r,r=zbk ((si fs).num*((((1:Int):Rat)).den:Int)) ((((1:Int):Rat)).num*((si fs).den:Int)):=⟨_,rfl⟩
 have ls:=zfi c fs lf fs.length (Nat.le_refl _)
 rw[List.take_length] at ls
 have hkc:fs.length*(c+1)≤1000*101:=Nat.mul_le_mul (by have:=ae HN;omega) (by omega)
 have CM:=af (fun W (h:But [] wr W)=>zaz _ _ (si fs) ((1:Int):Rat) W (hf3.but h) (FW W) (ls.mono (by omega)) ((zan 1 (by decide)).mono (by omega)) r hr)
 have hr0:(r != 0)=!decide (si fs=1):=qfz _ _ r hr
 have HR0:=af hr0
 have HPOS:=af hpos
 have HBW:=af hbw
 have C3:=af c3
 have CWH:=af CW
 clear hall hpos hf3 z3 hbw hr ls hkc hr0 FW CW HI
 go_wp2
 refine zrb 11 _ _ wr t3 a3 b3 q3 ws wx r (by simp) g3 (by simp[Act.eval]) c3 (ae CWH) (fun w' hb=>ae CM w' hb) ?_
 intro w1 hb1
 have B1:=af ((ae HBW).trans' hb1)
 simp only[bj,List.foldl_cons,List.foldl_nil,Act.put,List.setIfInBounds_toArray,List.set_cons_zero,List.set_cons_succ]
 rw[ae HR0]
 have nn:¬ (fs.length<1∨201<fs.length):=by have:=ae HN;omega
 have nany:fs.any (fun f=>decide (f.num<0))=false:=by
  rw[List.any_eq_false]
  intro f hf
  simpa using ae HPOS f hf
 by_cases hone:si fs=1
 ·(
 have e1:ce=0:=by rw[ae HCE];unfold yc;rw[if_neg nn,nany];simp[hone]
 subst e1
 rw[decide_eq_true hone]
 clear c3 hb1
 go_wp2
 go_ret
 exact⟨rfl,ae B1⟩)
 ·(
 have e1:ce=10:=by rw[ae HCE];unfold yc;rw[if_neg nn,nany];simp[hone]
 subst e1
 rw[decide_eq_false hone]
 clear c3 hb1
 go_wp2
 go_ret
 exact⟨rfl,ae B1⟩))))))
theorem ol (n:Int) (w:World):Calls prog 118 #[.int .i64 n] w fun e w'=>e=.returned (if n<0∨200<n then .iface 33 (.int .i64 2) else .nilIface)∧w'=w:=by(
 go_enter func118,ntmps118
 by_cases h0:n<0
 ·go_wp2
  go_ret
  exact⟨rfl,rfl⟩
 ·(
 by_cases h1:200<n
 ·go_wp2
  go_ret
  exact⟨rfl,rfl⟩
 ·go_wp2
  go_ret
  exact⟨rfl,rfl⟩))
def l9 (fs:List Rat) (g:Nat→Int):Nat→Rat
 | 0=>0
 | k+1=>l9 fs g k+fs[k]?.getD 0*((g k:Int):Rat)
theorem zgd (c:Nat) (fs:List Rat) (g:Nat→Int) (h:∀ f ∈ fs,Len f c) (hg:∀ k,k<fs.length→(g k).natAbs < 18446744073709551616):∀ k,k≤fs.length→Len (l9 fs g k) (k*(c+2)+1)
 | 0,_=>zfh _ (by omega)
 | k+1,hk=>by
  have ih:=zgd c fs g h hg k (by omega)
  show Len (l9 fs g k+fs[k]?.getD 0*((g k:Int):Rat)) _
  rw[List.getElem?_eq_getElem (by omega),Option.getD_some]
  exact zhx ih (zgc (h _ (List.getElem_mem (by omega))) (zan (g k) (hg k (by omega))) (c+1) (Nat.le_refl _)) _ (by rw[Nat.succ_mul];omega)
theorem zhu (v:Value) (fs:List Rat) (c:Nat) (fo:FuncId) (fe:Array Value) (g:Nat→Int) (w:World) (hv:au w v fs) (hn:fs.length≤1000) (lf:∀ f ∈ fs,Len f c) (hc:c≤100)
   (hg:∀ k,k<fs.length→0≤g k∧g k<4294967296) (EN:∀ args W,(callFunc fo args).run prog W=.ok (.enter fo args) W)
   (OF:∀ k,k<fs.length→∀ W,But [] w W→Calls prog fo (#[.int .i64 (k:Int)]++fe) W fun e w'=>e=.returned (.int .i64 (g k))∧But [] W w') :
   Calls prog 109 #[v,.func (.func fo) #[] fe] w fun e w'=>∃ s x y p,e=.returned (.agg #[.bool s,.int .u64 x,.int .u64 y,.pointer p])∧aq w' (.agg #[.bool s,.int .u64 x,.int .u64 y,.pointer p]) (l9 fs g fs.length)∧But [] w w':=by(
 obtain⟨q,cap,rfl,hcap,-⟩:=id hv
 obtain⟨n,hN⟩:∃ n,n=fs.length:=⟨_,rfl⟩
 rw[← hN] at hn hcap ⊢
 rw[← hN] at hv
 have HV:=af hv
 have HN:=af hN
 have HEN:=af EN
 have HOF:=af OF
 have HG:=af hg
 clear hv hN EN OF hg
 obtain⟨W,hW⟩:∃ W,W=(w.alloc (.cells #[.bool false,.int .u64 0,.int .u64 0,.pointer none] 27)).alloc (.cells #[.bool false,.int .u64 0,.int .u64 0,.pointer none] 27):=⟨_,rfl⟩
 have x4:bf W w.heap.size 0:=by rw[hW];exact (bf.new w false 0 0 none 0 27 (yw _)).but ((But.refl _ _).alloc _)
 have x5:bf W (w.heap.size+1) 0:=by
  rw[hW]
  have h:=bf.new (w.alloc (.cells #[.bool false,.int .u64 0,.int .u64 0,.pointer none] 27)) false 0 0 none 0 27 (yw _)
  rw[show (w.alloc (.cells #[.bool false,.int .u64 0,.int .u64 0,.pointer none] 27)).heap.size=w.heap.size+1 from by simp] at h
  exact h
 have bW:But [] w W:=by rw[hW];exact ((But.refl _ _).alloc _).alloc _
 have X4:=af x4
 have X5:=af x5
 have BW:=af bW
 clear x4 x5 bW
 go_enter func109,ntmps109
 go_wp2
 rw[← hW]
 clear hW
 generalize hg5:w.heap.size+1=g5 at *
 generalize hg4:w.heap.size=g4 at *
 go_loopw [10] (fun iv wr=>∃ k:Nat,k≤n∧iv=.int .i64 (k:Int)∧Hid (bf wr g5 (l9 fs g k)∧bf wr g4 0∧But [] w wr)) (fun iv _=>n-(intOf iv).toNat)
 case atStart=>exact⟨0,Nat.zero_le _,rfl,ae X5,ae X4,ae BW⟩
 case round =>(
 obtain⟨k,hk,rfl,HI⟩:=hrel
 rename World=>wr
 clear X4 X5 BW
 by_cases hlt:k<n
 ·(
 have hkl:k<fs.length:=by have:=ae HN;omega
 have hfx:=(ae HV).but (ae HI).2.2
 rcases hfx.open with ⟨er,-⟩|⟨-,rb,roff,rcap2,er,-,-⟩
 ·rw[er] at hkl
  simp at hkl
 simp only[Value.slice.injEq] at er
 obtain⟨rfl,-,rfl⟩:=er
 obtain⟨sr,xr,yr,pr,⟨r0,r1,r2,r3⟩,hfr⟩:=hfx.get k hlt
 obtain⟨f,hff⟩:∃ f,f=fs[k]?.getD 0:=⟨_,rfl⟩
 rw[← hff] at hfr
 have hmem:f ∈ fs:=by rw[hff,List.getElem?_eq_getElem hkl];exact List.getElem_mem hkl
 have HFR:=af hfr
 have HFF:=af hff
 clear hfx hfr hff
 go_wp2
 have bA:But [] wr (wr.alloc (.cells #[.bool sr,.int .u64 xr,.int .u64 yr,.pointer pr] 27)):=(But.refl _ _).alloc _
 have x7:=bf.new wr sr xr yr pr _ 27 (ae HFR)
 have D5:=af ((ae HI).1.but bA)
 have D4:=af ((ae HI).2.1.but bA)
 have DB:=af ((ae HI).2.2.trans' bA)
 have X7:=af x7
 clear bA x7 HFR r0 r1 r2 r3 HI
 generalize wr.heap.size=g7 at *
 generalize wr.alloc (.cells #[.bool sr,.int .u64 xr,.int .u64 yr,.pointer pr] 27)=U at *
 obtain⟨⟨t5,a5,b5,q5,c5,hf5⟩,z5⟩:=ae D5
 obtain⟨⟨t7,a7,b7,q7,c7,hf7⟩,-⟩:=ae X7
 obtain⟨hg0,hg1⟩:=ae HG k hkl
 obtain⟨ws,wx,FW,CW⟩:=zbq (g k) (by omega) (by omega)
 have lint:Len ((g k:Int):Rat) 1:=zan (g k) (by omega)
 have lm:=zgd c fs g lf (fun j hj=>by have:=ae HG j hj;omega) k (by omega)
 have hkc:k*(c+2)≤1000*102:=Nat.mul_le_mul (by omega) (by omega)
 refine zte 5 _ _ U t5 a5 b5 q5 t7 a7 b7 q7 fo fe (k:Int) (g k) ws wx _ _ g5 g7 (by simp) (by simp[Act.eval]) c5 z5 (by simp[Act.eval]) (by simp[Act.eval]) (by simp[Act.eval]) c5 c7 (ae HEN) (fun w' hb=>ae HOF k hkl w' ((ae DB).trans' hb)) CW (fun w' hb=>zay _ _ _ _ w' (hf7.but hb) (FW w') ((lf f hmem).mono (by omega)) (lint.mono (by omega))) (fun w' hb v' hv'=>mg 200000 200000 (by omega) _ _ _ _ w' (hf5.but hb) hv' (lm.mono (by omega)) (zgc (lf f hmem) lint 200000 (by omega))) ?_
 intro w7 v6' s7 x7 y7 p7 hb7 hfz
 simp only[bj,List.foldl_cons,List.foldl_nil,Act.put,List.setIfInBounds_toArray,List.set_cons_zero,List.set_cons_succ]
 have ez:l9 fs g k+f*((g k:Int):Rat)=l9 fs g (k+1):=by rw[ae HFF];rfl
 rw[ez] at hfz
 have hP:=ax w7 g5 s7 x7 y7 p7
 have J5:=af (((ae D5).but hb7).put hfz)
 have J4:=af (((ae D4).but hb7).beside hP (by simp;omega) (fun g hg=>by simp at hg;subst hg;exact ((ae D5).but hb7).bool))
 have JB:=af (((ae DB).trans' hb7).trans hP (fun x hx=>by simp at hx;subst hx;exact .inr (by omega)))
 generalize qw w7 g5 s7 x7 y7 p7=V7 at *
 clear hP hfz hb7 D5 D4 DB X7 c5 c7 hf5 hf7 z5 ez lm lint hkc
 go_wp2
 exact⟨⟨k+1,by omega,by go_num,ae J5,ae J4,ae JB⟩,by simp[intOf];omega⟩)
 ·(
 obtain rfl:k=n:=by omega
 obtain⟨⟨⟨t6,a6,b6,q6',⟨d0,d1,d2,d3⟩,hf6⟩,z6⟩,⟨⟨t2,a2,b2,q2,⟨c0,c1,c2,c3⟩,-⟩,z2⟩,hbw⟩:=ae HI
 have HF6:=af hf6
 have HBW:=af hbw
 have P2:Hid (P4 wr g4 t2 a2 b2 q2):=⟨c0,c1,c2,c3⟩
 clear HI hf6 hbw
 go_wp2
 have hP:=ax wr g4 t6 a6 b6 q6'
 obtain⟨m0,m1,m2,m3⟩:=j6 wr g4 t6 a6 b6 q6' (ae P2)
 have hF:But [] w (qw wr g4 t6 a6 b6 q6'):=(ae HBW).trans hP (fun x hx=>by simp at hx;subst hx;exact .inr (by omega))
 have hff:=(ae HF6).over (ae P2).1 hP
 change bodyPost _ _ _ _ _ (qw wr g4 t6 a6 b6 q6')
 generalize qw wr g4 t6 a6 b6 q6'=F at *
 exact bodyPost_ret (v:=.agg #[.bool t6,.int .u64 a6,.int .u64 b6,.pointer q6']) (by simp[results,results109,go_sem,m0,m1,m2,m3]) rfl ⟨_,_,_,_,rfl,hff,hF⟩)))
theorem zwo (k:Int) (w:World):Calls prog 110 #[.int .i64 k] w fun e w'=>e=.returned (.int .i64 k)∧w'=w:=by(
 go_enter func110,ntmps110
 go_wp2
 go_ret
 exact⟨rfl,rfl⟩)
theorem zwk (g:Nat) (a k:Int) (w:World) (hc:w.cell? ⟨g,0,none⟩=some (.int .i64 a)) (ha:0≤a∧a<4294967296) (hk:0≤k∧k<4294967296):Calls prog 119 #[.int .i64 k,.pointer (some ⟨g,0,none⟩)] w fun e w'=>e=.returned (.int .i64 (max (k-a) 0))∧w'=w:=by(
 obtain⟨h1,h2⟩:=ha
 obtain⟨h3,h4⟩:=hk
 go_enter func119,ntmps119
 go_wp2
 go_ret
 exact⟨rfl,rfl⟩)
theorem zut (g g':Nat) (a b k:Int) (w:World) (hc:w.cell? ⟨g,0,none⟩=some (.int .i64 a)) (hd:w.cell? ⟨g',0,none⟩=some (.int .i64 b)) (ha:0≤a∧a<4294967296) (hb:0≤b∧b<4294967296) (hk:0≤k∧k<4294967296):Calls prog 120 #[.int .i64 k,.pointer (some ⟨g,0,none⟩),.pointer (some ⟨g',0,none⟩)] w fun e w'=>e=.returned (.int .i64 (min (max (k-a) 0) b))∧w'=w:=by(
 obtain⟨h1,h2⟩:=ha
 obtain⟨h3,h4⟩:=hk
 obtain⟨h5,h6⟩:=hb
 go_enter func120,ntmps120
 go_wp2
 go_ret
 exact⟨rfl,rfl⟩)
theorem zod:∀ args W,(callFunc 110 args).run prog W=.ok (.enter 110 args) W:=enters_of func110 (by kernel_rfl) rfl
theorem zoc:∀ args W,(callFunc 119 args).run prog W=.ok (.enter 119 args) W:=enters_of func119 (by kernel_rfl) rfl
theorem zob:∀ args W,(callFunc 120 args).run prog W=.ok (.enter 120 args) W:=enters_of func120 (by kernel_rfl) rfl
end Go.Proofs.YtagmkkiagjmimaaGreatDoor
