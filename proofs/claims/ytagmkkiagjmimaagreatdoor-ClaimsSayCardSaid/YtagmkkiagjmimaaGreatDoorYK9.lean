/- The mean beyond an amount, the greatest  -/
import Derived.Test.YtagmkkiagjmimaaGreatDoorYF10
import Derived.Test.YtagmkkiagjmimaaGreatDoorYK8
namespace Go.Proofs.YtagmkkiagjmimaaGreatDoor
open Go.Proofs.Tryz
open Go.RowKit
set_option maxHeartbeats 16000000
set_option maxRecDepth 100000
def zei (fs:List Rat) (a:Int):Int:=if yc fs≠0 then yc fs else if a<0∨200<a then 2 else 0
theorem ztk (v:Value) (fs:List Rat) (c:Nat) (a:Int) (w:World) (hv:au w v fs) (hn:fs.length≤1000) (lf:∀ f ∈ fs,Len f c) (hc:c≤100) :
   Calls prog 49 #[v,.int .i64 a] w fun e w'=>zrh w' e (zei fs a) (l9 fs (fun k=>max ((k:Int)-a) 0) fs.length)∧But [] w w':=by(
 have CH:=af (fun W (h:But [] w W)=>jm v fs c W (hv.but h) hn lf hc)
 have CS:=af (ol a)
 have ME:Hid (∀ g W,0≤a∧a≤200→But [] w W→W.cell? ⟨g,0,none⟩=some (.int .i64 a)→Calls prog 109 #[v,.func (.func 119) #[] #[.pointer (some ⟨g,0,none⟩)]] W fun e w'=>∃ s x y p,e=.returned (.agg #[.bool s,.int .u64 x,.int .u64 y,.pointer p])∧aq w' (.agg #[.bool s,.int .u64 x,.int .u64 y,.pointer p]) (l9 fs (fun k=>max ((k:Int)-a) 0) fs.length)∧But [] W w') :=
  fun g W ha hb hg=>zhu v fs c 119 _ (fun k=>max ((k:Int)-a) 0) W (hv.but hb) hn lf hc (fun k hk=>⟨by show 0≤max _ _;omega,by show max _ _<_;omega⟩) zoc (fun k hk W' hb'=>(zwk g a k W' (hb'.ag hg (by simp)) ⟨by omega,by omega⟩ ⟨by omega,by omega⟩).mono (fun e w' h=>⟨h.1,by rw[h.2];exact But.refl _ _⟩))
 obtain⟨se,hse⟩:∃ se,se=zei fs a:=⟨_,rfl⟩
 rw[← hse]
 unfold zei at hse
 obtain⟨q,cap,rfl,hcap,-⟩:=id hv
 generalize hq:yc fs=ce at *
 have HSE:=af hse
 clear hq hv hse
 obtain⟨W,hW⟩:∃ W,W=(w.alloc (.cells #[.int .i64 a] 3)).alloc (.cells #[.bool false,.int .u64 0,.int .u64 0,.pointer none] 27):=⟨_,rfl⟩
 have x4:bf W (w.heap.size+1) 0:=by
  rw[hW]
  have h:=bf.new (w.alloc (.cells #[.int .i64 a] 3)) false 0 0 none 0 27 (yw _)
  rw[show (w.alloc (.cells #[.int .i64 a] 3)).heap.size=w.heap.size+1 from by simp] at h
  exact h
 have c3:W.cell? ⟨w.heap.size,0,none⟩=some (.int .i64 a):=by rw[hW];exact ((But.refl [] _).alloc _).ag (by simp) (by simp)
 have bW:But [] w W:=by rw[hW];exact ((But.refl _ _).alloc _).alloc _
 have X4:=af x4
 have BW:=af bW
 clear x4 bW
 go_enter func49,ntmps49
 go_wp2_with fail
 rw[← hW]
 clear hW
 refine (ae CH _ (ae BW)).mono ?_
 rintro e w1 ⟨rfl,hb1⟩
 have B1:=af ((ae BW).trans' hb1)
 have X41:=af ((ae X4).but hb1)
 replace c3:=hb1.ag c3 (by simp)
 clear hb1 CH X4 BW
 have o4:w.heap.size≤w.heap.size+1:=by omega
 generalize hg4:w.heap.size+1=g4 at *
 generalize hg3:w.heap.size=g3 at *
 obtain⟨⟨t2,a2,b2,q2,⟨d0,d1,d2,d3⟩,-⟩,z2⟩:=ae X41
 have P2:Hid (P4 w1 g4 t2 a2 b2 q2):=⟨d0,d1,d2,d3⟩
 have hmf:∀ (fn:Fn) (first cap:Array Value) (w:World),(Instr.makeFunc fn first cap).run prog w=.ok (.func fn first cap) w:=fun _ _ _ _=>rfl
 unfold zcm
 by_cases h0:ce=0
 ·(
 subst h0
 rw[if_pos rfl]
 by_cases ha:a<0∨200<a
 ·(
 rw[if_pos ha] at CS
 obtain rfl:se=2:=by rw[ae HSE,if_neg (by simp),if_pos ha]
 go_wp2_with fail
 refine (ae CS _).mono ?_
 rintro e w1' ⟨rfl,hw⟩
 obtain rfl:=hw.symm
 clear hw
 clear CS
 go_wp2
 have hP:=ax w1 g4 false 0 0 none
 obtain⟨m0,m1,m2,m3⟩:=j6 w1 g4 false 0 0 none (ae P2)
 have hF:But [] w (qw w1 g4 false 0 0 none):=(ae B1).trans hP (fun x hx=>by simp at hx;subst hx;exact .inr (by omega))
 change bodyPost _ _ _ _ _ (qw w1 g4 false 0 0 none)
 generalize qw w1 g4 false 0 0 none=F at *
 exact bodyPost_ret (v:=.tuple #[.agg #[.bool false,.int .u64 0,.int .u64 0,.pointer none],.iface 33 (.int .i64 2)]) (by simp[results,results49,go_sem,m0,m1,m2,m3]) rfl ⟨.inl ⟨by decide,rfl⟩,hF⟩)
 ·(
 rw[if_neg ha] at CS
 obtain rfl:se=0:=by rw[ae HSE,if_neg (by simp),if_neg ha]
 go_wp2_with fail
 refine (ae CS _).mono ?_
 rintro e w1' ⟨rfl,hw⟩
 obtain rfl:=hw.symm
 clear hw
 have ME':=af (ae ME g3 w1 (by omega) (ae B1) c3)
 clear CS ME
 go_wp2_with fail
 refine (ae ME').mono ?_
 rintro e w2 ⟨s,x,y,p,rfl,hf,hb2⟩
 have l2:g4<w1.heap.size:=ai d0
 have z2':∀ j,w2.frozen? ⟨g4,j,none⟩=false:=fun j=>(hb2.frozen (p:=⟨g4,j,none⟩) l2 (by simp)).trans (z2 j)
 replace d0:=hb2.ag d0 (by simp)
 replace d1:=hb2.ag d1 (by simp)
 replace d2:=hb2.ag d2 (by simp)
 replace d3:=hb2.ag d3 (by simp)
 have B2:=af ((ae B1).trans' hb2)
 have HF:=af hf
 have P3:=af ((ae P2).but hb2 (by simp))
 clear hb2 hf ME' z2 B1
 go_wp2
 have hP:=ax w2 g4 s x y p
 obtain⟨m0,m1,m2,m3⟩:=j6 w2 g4 s x y p (ae P3)
 have hF:But [] w (qw w2 g4 s x y p):=(ae B2).trans hP (fun x hx=>by simp at hx;subst hx;exact .inr (by omega))
 have hff:=(ae HF).over (ae P3).1 hP
 change bodyPost _ _ _ _ _ (qw w2 g4 s x y p)
 generalize qw w2 g4 s x y p=F at *
 exact bodyPost_ret (v:=.tuple #[.agg #[.bool s,.int .u64 x,.int .u64 y,.pointer p],.nilIface]) (by simp[results,results49,go_sem,m0,m1,m2,m3]) rfl ⟨.inr ⟨rfl,_,_,_,_,rfl,hff⟩,hF⟩))
 ·(
 rw[if_neg h0]
 obtain rfl:se=ce:=by rw[ae HSE,if_pos h0]
 go_wp2
 have hP:=ax w1 g4 false 0 0 none
 obtain⟨m0,m1,m2,m3⟩:=j6 w1 g4 false 0 0 none (ae P2)
 have hF:But [] w (qw w1 g4 false 0 0 none):=(ae B1).trans hP (fun x hx=>by simp at hx;subst hx;exact .inr (by omega))
 change bodyPost _ _ _ _ _ (qw w1 g4 false 0 0 none)
 generalize qw w1 g4 false 0 0 none=F at *
 exact bodyPost_ret (v:=.tuple #[.agg #[.bool false,.int .u64 0,.int .u64 0,.pointer none],.iface 33 (.int .i64 se)]) (by simp[results,results49,go_sem,m0,m1,m2,m3]) rfl ⟨.inl ⟨h0,rfl⟩,hF⟩))
set_option linter.unusedVariables false
theorem zla (v:Value) (fs:List Rat) (c:Nat) (s1:Bool) (x1 y1:Int) (p1:Option Addr) (w:World) (hv:au w v fs) (hn:fs.length≤1000) (lf:∀ f ∈ fs,Len f c) (hc:c≤100) (h0:yc fs≠0) :
   Calls prog 45 #[v,.agg #[.bool s1,.int .u64 x1,.int .u64 y1,.pointer p1]] w fun e w'=>e=.returned (.tuple #[.int .i64 0,.iface 33 (.int .i64 (yc fs))])∧But [] w w':=by(
 have CH:=af (fun W (h:But [] w W)=>jm v fs c W (hv.but h) hn lf hc)
 have bA:But [] w (w.alloc (.cells #[.bool s1,.int .u64 x1,.int .u64 y1,.pointer p1] 27)):=(But.refl _ _).alloc _
 have BA:=af bA
 obtain⟨q,cap,rfl,hcap,-⟩:=id hv
 generalize hq:yc fs=ce at *
 clear hq hv bA
 go_enter func45,ntmps45
 go_wp2_with fail
 refine (ae CH _ (ae BA)).mono ?_
 rintro e w1 ⟨rfl,hb1⟩
 have B1:=af ((ae BA).trans' hb1)
 clear hb1 CH BA
 unfold zcm
 rw[if_neg h0]
 go_wp2
 exact bodyPost_ret (v:=.tuple #[.int .i64 0,.iface 33 (.int .i64 ce)]) (by simp[results,results45,go_sem]) rfl ⟨rfl,ae B1⟩)
theorem zqr (v:Value) (fs:List Rat) (c:Nat) (s1:Bool) (x1 y1:Int) (p1:Option Addr) (w:World) (hv:au w v fs) (hn:fs.length≤1000) (lf:∀ f ∈ fs,Len f c) (hc:c≤100) (h0:yc fs≠0) :
   Calls prog 47 #[v,.agg #[.bool s1,.int .u64 x1,.int .u64 y1,.pointer p1]] w fun e w'=>e=.returned (.tuple #[.agg #[.bool false,.int .u64 0,.int .u64 0,.pointer none],.iface 33 (.int .i64 (yc fs))])∧But [] w w':=by(
 have CH:=af (fun W (h:But [] w W)=>jm v fs c W (hv.but h) hn lf hc)
 obtain⟨q,cap,rfl,hcap,-⟩:=id hv
 generalize hq:yc fs=ce at *
 clear hq hv
 obtain⟨W,hW⟩:∃ W,W=(w.alloc (.cells #[.bool s1,.int .u64 x1,.int .u64 y1,.pointer p1] 27)).alloc (.cells #[.bool false,.int .u64 0,.int .u64 0,.pointer none] 27):=⟨_,rfl⟩
 have x4:bf W (w.heap.size+1) 0:=by
  rw[hW]
  have h:=bf.new (w.alloc (.cells #[.bool s1,.int .u64 x1,.int .u64 y1,.pointer p1] 27)) false 0 0 none 0 27 (yw _)
  rw[show (w.alloc (.cells #[.bool s1,.int .u64 x1,.int .u64 y1,.pointer p1] 27)).heap.size=w.heap.size+1 from by simp] at h
  exact h
 have bW:But [] w W:=by rw[hW];exact ((But.refl _ _).alloc _).alloc _
 have X4:=af x4
 have BW:=af bW
 clear x4 bW
 go_enter func47,ntmps47
 go_wp2_with fail
 rw[← hW]
 clear hW
 refine (ae CH _ (ae BW)).mono ?_
 rintro e w1 ⟨rfl,hb1⟩
 have B1:=af ((ae BW).trans' hb1)
 have X41:=af ((ae X4).but hb1)
 clear hb1 CH X4 BW
 have o4:w.heap.size≤w.heap.size+1:=by omega
 generalize hg4:w.heap.size+1=g4 at *
 obtain⟨⟨t2,a2,b2,q2,⟨d0,d1,d2,d3⟩,-⟩,z2⟩:=ae X41
 have P2:Hid (P4 w1 g4 t2 a2 b2 q2):=⟨d0,d1,d2,d3⟩
 unfold zcm
 rw[if_neg h0]
 go_wp2
 have hP:=ax w1 g4 false 0 0 none
 obtain⟨m0,m1,m2,m3⟩:=j6 w1 g4 false 0 0 none (ae P2)
 have hF:But [] w (qw w1 g4 false 0 0 none):=(ae B1).trans hP (fun x hx=>by simp at hx;subst hx;exact .inr (by omega))
 change bodyPost _ _ _ _ _ (qw w1 g4 false 0 0 none)
 generalize qw w1 g4 false 0 0 none=F at *
 exact bodyPost_ret (v:=.tuple #[.agg #[.bool false,.int .u64 0,.int .u64 0,.pointer none],.iface 33 (.int .i64 ce)]) (by simp[results,results47,go_sem,m0,m1,m2,m3]) rfl ⟨rfl,hF⟩)
def zqq (fs:List Rat) (a b:Int):Int:=if zei fs a≠0 then zei fs a else if b<0∨200<b then 2 else 0
theorem zqs (v:Value) (fs:List Rat) (c:Nat) (a b:Int) (w:World) (hv:au w v fs) (hn:fs.length≤1000) (lf:∀ f ∈ fs,Len f c) (hc:c≤100) (h0:zqq fs a b≠0) :
   Calls prog 51 #[v,.int .i64 a,.int .i64 b] w fun e w'=>e=.returned (.tuple #[.slice none 0 0,.iface 33 (.int .i64 (zqq fs a b))])∧But [] w w':=by(
 have CH:=af (fun W (h:But [] w W)=>jm v fs c W (hv.but h) hn lf hc)
 have CS:=af (ol a)
 have CT:=af (ol b)
 obtain⟨z,hz⟩:∃ z,z=zqq fs a b:=⟨_,rfl⟩
 rw[← hz] at h0 ⊢
 unfold zqq zei at hz
 obtain⟨q,cap,rfl,hcap,-⟩:=id hv
 generalize hq:yc fs=ce at *
 have HZ:=af hz
 clear hq hv hz
 obtain⟨W,hW⟩:∃ W,W=(w.alloc (.cells #[.int .i64 a] 3)).alloc (.cells #[.int .i64 b] 3):=⟨_,rfl⟩
 have c4:W.cell? ⟨w.heap.size,0,none⟩=some (.int .i64 a):=by rw[hW];exact ((But.refl [] _).alloc _).ag (by simp) (by simp)
 have c5:W.cell? ⟨w.heap.size+1,0,none⟩=some (.int .i64 b):=by rw[hW];simp
 have bW:But [] w W:=by rw[hW];exact ((But.refl _ _).alloc _).alloc _
 have BW:=af bW
 clear bW
 go_enter func51,ntmps51
 go_wp2_with fail
 rw[← hW]
 clear hW
 refine (ae CH _ (ae BW)).mono ?_
 rintro e w1 ⟨rfl,hb1⟩
 have B1:=af ((ae BW).trans' hb1)
 replace c4:=hb1.ag c4 (by simp)
 replace c5:=hb1.ag c5 (by simp)
 clear hb1 CH BW
 generalize w.heap.size+1=g5 at *
 generalize w.heap.size=g4 at *
 unfold zcm
 by_cases hce:ce=0
 ·(
 subst hce
 rw[if_pos rfl]
 have HZ1:Hid (z=if (if a<0∨200<a then (2:Int) else 0)≠0 then (if a<0∨200<a then (2:Int) else 0) else if b<0∨200<b then 2 else 0):=by
  show z=_
  rw[ae HZ,if_neg (show ¬ ((0:Int)≠0) by decide)]
 clear HZ
 by_cases ha:a<0∨200<a
 ·(
 rw[if_pos ha] at CS
 obtain rfl:z=2:=by rw[ae HZ1,if_pos ha,if_pos (by decide)]
 clear HZ1
 go_wp2_with fail
 refine (ae CS _).mono ?_
 rintro e w1' ⟨rfl,hw⟩
 obtain rfl:=hw.symm
 clear hw CS
 go_wp2
 exact bodyPost_ret (v:=.tuple #[.slice none 0 0,.iface 33 (.int .i64 2)]) (by simp[results,results51,go_sem]) rfl ⟨rfl,ae B1⟩)
 ·(
 rw[if_neg ha] at CS
 have hb:b<0∨200<b:=by
  rcases Classical.em (b<0∨200<b) with h | h
  ·exact h
  ·exact absurd (by rw[ae HZ1,if_neg ha,if_neg (by decide),if_neg h]) h0
 obtain rfl:z=2:=by rw[ae HZ1,if_neg ha,if_neg (by decide),if_pos hb]
 rw[if_pos hb] at CT
 clear HZ1
 go_wp2_with fail
 refine (ae CS _).mono ?_
 rintro e w1' ⟨rfl,hw⟩
 obtain rfl:=hw.symm
 clear hw CS
 go_wp2_with fail
 refine (ae CT _).mono ?_
 rintro e w1' ⟨rfl,hw⟩
 obtain rfl:=hw.symm
 clear hw CT
 go_wp2
 exact bodyPost_ret (v:=.tuple #[.slice none 0 0,.iface 33 (.int .i64 2)]) (by simp[results,results51,go_sem]) rfl ⟨rfl,ae B1⟩))
 ·rw[if_neg hce]
  obtain rfl:z=ce:=by rw[ae HZ,if_pos hce,if_pos hce]
  go_wp2
  exact bodyPost_ret (v:=.tuple #[.slice none 0 0,.iface 33 (.int .i64 z)]) (by simp[results,results51,go_sem]) rfl ⟨rfl,ae B1⟩)
end Go.Proofs.YtagmkkiagjmimaaGreatDoor
