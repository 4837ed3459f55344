/- How likely each number of claims is, as  -/
import Derived.Test.YtlckjpelcmjimaaGreatDoorKPKI
import Derived.Test.YtlckjpelcmjimaaGreatDoorKPZD
namespace Go.Proofs.YtlckjpelcmjimaaGreatDoor
open Go.RowKit
set_option maxHeartbeats 16000000
set_option maxRecDepth 100000
theorem of_parts (f:Rat) (x y:Int) (hy:y≠0) (h:f.num*y=x*f.den):f=((x:Int):Rat)/((y:Int):Rat):=by
 have:=qf_of f (x,y) (by simp only [if_neg hy];exact h)
 rw [this]
 unfold qf
 simp only [if_neg hy]
theorem trN_step_len (r:Rat) (N k:Nat) (hN:N≤8) (hk:k≤8) (lr:Len r 5):Len (r*(((((N:Int)-(k:Int)):Int):Rat)/((((k:Int)+1):Int):Rat))) 6:=by
 obtain ⟨f,-,-,-,l,e,-⟩:=fracOf_at ((N:Int)-(k:Int)) ((k:Int)+1) (by omega) (by omega) (by omega) (by omega) (by omega)
 rw [← of_parts f _ _ (by omega) e]
 exact len_mul lr l _ (by omega)
theorem len_trN (no r:Rat) (N:Nat) (hN:N≤8) (ln:Len no 24) (lr:Len r 5):∀ k,k≤9→Len (trN no r N k) (24+k*6)
 | 0,_=>ln.mono (by omega)
 | k+1,hk=>len_mul (len_trN no r N hN ln lr k (by omega)) (trN_step_len r N k hN (by omega) lr) _ (by omega)
theorem numChances_err (n:Nat) (s1:Bool) (x1 y1:Int) (p1:Option Addr) (f:Rat) (w:World) (hf:am w (.agg #[.bool s1,.int .u64 x1,.int .u64 y1,.pointer p1]) f) (lf:Len f 1) (hn:n≤8) (hne:¬ (0≤f∧f<1)) :
  Calls Tryz.prog 11 #[.agg #[.int .i64 1,.int .i64 (n:Int),.bool s1,.int .u64 x1,.int .u64 y1,.pointer p1],.int .i64 (n:Int)] w fun e w'=>e=.returned (.tuple #[.slice none 0 0,.iface 54 (.int .i64 1)])∧But [] w w':=by
 have CK:=af (fun W (h:But [] w W)=>numCheck_any n s1 x1 y1 p1 f W (hf.but h) (lf.mono (by omega)) (by omega))
 rw [if_neg hne] at CK
 clear hf lf
 go_enter Tryz.func11,Tryz.ntmps11
 go_wp2_with fail
 refine (ae CK _ ((But.refl _ _).alloc _)).mono ?_
 rintro e w1 ⟨rfl,hb1⟩
 have B1:=af (((But.refl [] w).alloc (.cells #[.int .i64 1,.int .i64 (n:Int),.bool s1,.int .u64 x1,.int .u64 y1,.pointer p1] 32)).trans' hb1)
 clear hb1 CK
 go_wp2
 exact bodyPost_ret (v:=.tuple #[.slice none 0 0,.iface 54 (.int .i64 1)]) (by simp [results,Tryz.results11,go_sem]) rfl ⟨rfl,ae B1⟩
structure ChanI (w wr:World) (BB g8:Nat) (s2:Bool) (x2 y2:Int) (p2:Option Addr) (no r:Rat) (n k:Nat) (o:Value):Prop where
 but:But [] w wr
 pow:wr.cell? ⟨g8,8,none⟩=some (.int .i64 (n:Int))
 cel:P4o wr g8 4 s2 x2 y2 p2
 rat:am wr (.agg #[.bool s2,.int .u64 x2,.int .u64 y2,.pointer p2]) r
 row:∃ vs,aw wr BB o ((List.range (k+1)).map (trN no r n)) vs
theorem numChances_ok (n:Nat) (s1:Bool) (x1 y1:Int) (p1:Option Addr) (f:Rat) (w:World) (hf:am w (.agg #[.bool s1,.int .u64 x1,.int .u64 y1,.pointer p1]) f) (lf:Len f 1) (hn:n≤8) (h0:0≤f) (hlt:f<1) :
  Calls Tryz.prog 11 #[.agg #[.int .i64 1,.int .i64 (n:Int),.bool s1,.int .u64 x1,.int .u64 y1,.pointer p1],.int .i64 (n:Int)] w fun e w'=>∃ v,e=.returned (.tuple #[v,.nilIface])∧(∃ vs,aw w' w.heap.size v ((List.range (n+1)).map (trN (rpow (((1:Int):Rat)-f) n) (f/(((1:Int):Rat)-f)) n)) vs)∧But [] w w':=by
 have l1:Len (((1:Int):Rat)) 1:=len_int 1 (by decide)
 have ls:Len (((1:Int):Rat)-f) 3:=len_sub l1 lf _ (by omega)
 have lno:Len (rpow (((1:Int):Rat)-f) n) 24:=len_rpow8 ls hn (by omega)
 have hne0:(((1:Int):Rat)-f).num≠0:=fun h=>by
  have h1:=Rat.num_eq_zero.1 h
  have e:((1:Int):Rat)=1:=rfl
  rw [e] at h1
  grind
 have lra:Len (f/(((1:Int):Rat)-f)) 5:=len_div lf ls hne0 _ (by omega)
 have CK:=af (fun W (h:But [] w W)=>numCheck_any n s1 x1 y1 p1 f W (hf.but h) (lf.mono (by omega)) (by omega))
 rw [if_pos ⟨h0,hlt⟩] at CK
 have CS:=af (fun W=>checkSize_any (n:Int) W)
 have hns:¬ ((n:Int)<0∨200<(n:Int)):=by omega
 rw [if_neg hns] at CS
 have FO:=af (fun W (h:But [] w W)=>formOf_any n s1 x1 y1 p1 f W (hf.but h) lf hn hlt)
 generalize rpow (((1:Int):Rat)-f) n=no at *
 generalize f/(((1:Int):Rat)-f)=r at *
 have LN:=af lno
 have LR:=af lra
 clear hf lf l1 ls lno lra h0 hlt hns hne0
 go_enter Tryz.func11,Tryz.ntmps11
 go_wp2_with fail
 have bA:But [] w (w.alloc (.cells #[.int .i64 1,.int .i64 (n:Int),.bool s1,.int .u64 x1,.int .u64 y1,.pointer p1] 32)):=(But.refl [] w).alloc _
 have xA:=SBox.new w [.int .i64 1,.int .i64 (n:Int),.bool s1,.int .u64 x1,.int .u64 y1,.pointer p1] 32
 refine (ae CK _ bA).mono ?_
 rintro e w1 ⟨rfl,hb1⟩
 have B1:=af (bA.trans' hb1)
 have xA1:=xA.but hb1 (by simp) (by simp)
 have XA:=af xA1
 have a0:=xA1.cells 0 _ rfl
 have a1:=xA1.cells 1 _ rfl
 have a2:=xA1.cells 2 _ rfl
 have a3:=xA1.cells 3 _ rfl
 have a4:=xA1.cells 4 _ rfl
 have a5:=xA1.cells 5 _ rfl
 generalize w.heap.size=g2 at a0 a1 a2 a3 a4 a5 XA ⊢
 clear hb1 CK bA xA xA1
 go_wp2_with fail
 refine (ae CS _).mono ?_
 rintro e w1' ⟨rfl,rfl⟩
 go_wp2_with fail
 refine (ae FO _ (ae B1)).mono ?_
 rintro e w2 ⟨u1,u2,u3,u4,v1,v2,v3,v4,rfl,hno,hra,hb2⟩
 obtain ⟨V1,hV1⟩:∃ V1,V1=w2.alloc (.cells #[.bool u1,.int .u64 u2,.int .u64 u3,.pointer u4,.bool v1,.int .u64 v2,.int .u64 v3,.pointer v4,.int .i64 (n:Int)] 98):=⟨_,rfl⟩
 have bV1:But [] w2 V1:=by rw [hV1];exact (But.refl _ _).alloc _
 have sV1:V1.heap.size=w2.heap.size+1:=by rw [hV1];simp
 have x8:SBox V1 w2.heap.size [.bool u1,.int .u64 u2,.int .u64 u3,.pointer u4,.bool v1,.int .u64 v2,.int .u64 v3,.pointer v4,.int .i64 (n:Int)]:=by rw [hV1];exact SBox.new w2 _ _
 obtain ⟨V2,hV2⟩:∃ V2,V2=V1.alloc (.cells #[.bool u1,.int .u64 u2,.int .u64 u3,.pointer u4] 29):=⟨_,rfl⟩
 have bV2:But [] V1 V2:=by rw [hV2];exact (But.refl _ _).alloc _
 have gV:aw V2 V1.heap.size (.slice (some ⟨V1.heap.size,0,none⟩) 1 1) [no] [.agg #[.bool u1,.int .u64 u2,.int .u64 u3,.pointer u4]]:=by rw [hV2];exact aw.new V1 u1 u2 u3 u4 no (hno.but bV1)
 have I0:Hid (ChanI w V2 V1.heap.size w2.heap.size v1 v2 v3 v4 no r n 0 (.slice (some ⟨V1.heap.size,0,none⟩) 1 1)):=by
  have xx:=x8.but bV2 (by simp) (by simp)
  exact ⟨((ae B1).trans' hb2).trans' (bV1.trans' bV2),xx.cells 8 _ rfl,⟨xx.cells 4 _ rfl,xx.cells 5 _ rfl,xx.cells 6 _ rfl,xx.cells 7 _ rfl⟩,hra.but (bV1.trans' bV2),_,gV⟩
 have hsz:Hid (w.heap.size≤w2.heap.size):=((ae B1).trans' hb2).size
 rw [sV1,hV2,hV1] at I0
 clear hno hra hb2 bV1 bV2 x8 gV hV2 sV1 hV1 B1 XA a0 a1 a2 a3 a4 a5 FO CS
 clear V1 V2
 go_wp2
 generalize (w2.alloc (.cells #[.bool u1,.int .u64 u2,.int .u64 u3,.pointer u4,.bool v1,.int .u64 v2,.int .u64 v3,.pointer v4,.int .i64 (n:Int)] 98)).alloc (.cells #[.bool u1,.int .u64 u2,.int .u64 u3,.pointer u4] 29)=V2 at *
 obtain ⟨g8,hg8⟩:∃ g8,g8=w2.heap.size:=⟨_,rfl⟩
 obtain ⟨BB,hBB⟩:∃ BB,BB=w2.heap.size+1:=⟨_,rfl⟩
 rw [← hBB,← hg8] at I0
 rw [← hg8] at hsz
 rw [← hBB,← hg8]
 have o8:g8<BB:=by omega
 have HB8:Hid (w.heap.size≤BB):=by show _≤_;have:=ae hsz;omega
 clear hg8 hBB hsz
 go_loopw [9,29] (fun o i wr=>∃ k:Nat,k≤n∧i=.int .i64 (k:Int)∧(∃ gq cap,o=.slice (some ⟨gq,0,none⟩) (k+1) cap)∧Hid (ChanI w wr BB g8 v1 v2 v3 v4 no r n k o)) (fun _ i _=>n-(intOf i).toNat)
 case atStart=>exact ⟨0,Nat.zero_le _,rfl,⟨BB,1,rfl⟩,ae I0⟩
 case round =>
  obtain ⟨k,hk,rfl,⟨gq,cap,rfl⟩,HI⟩:=hrel
  rename World=>wr
  clear I0
  by_cases hlt:k<n
  ·obtain ⟨f3,r3,p3,q3,l3,e3,F3,C3⟩:=fracOf_at ((n:Int)-(k:Int)) ((k:Int)+1) (by omega) (by omega) (by omega) (by omega) (by omega)
   have e3':=of_parts f3 _ _ (by omega) e3
   have HC3:=af C3
   have HF3:=af F3
   have c8:=(ae HI).pow
   clear C3 F3 e3
   go_wp2_with fail
   refine (ae HC3 _).mono ?_
   rintro e w3 ⟨rfl,hb3⟩
   have bs3:=hb3.trans' ((But.refl _ _).alloc (.cells #[.bool r3,.int .u64 p3,.int .u64 q3,.pointer none] 29))
   have Y3:=af (ax.new w3 r3 p3 q3 none _ 29 (ae HF3 w3))
   have BS3:=af bs3
   clear hb3 bs3 c8 HC3
   go_wp2
   generalize w3.heap.size=g11 at *
   generalize w3.alloc (.cells #[.bool r3,.int .u64 p3,.int .u64 q3,.pointer none] 29)=V at *
   obtain ⟨vs,hgr⟩:=(ae HI).row
   have hG:=hgr.but (ae BS3)
   obtain ⟨gq',cap',eq,hB1,hl1,hcap,-,sq,hsq⟩:=hG.form
   simp only [Value.slice.injEq,Option.some.injEq,Addr.mk.injEq,and_true,List.length_map,List.length_range,true_and] at eq
   obtain ⟨rfl,rfl⟩:=eq
   have hge:=hG.fracs.get k (by omega)
   rw [List.getElem?_map,List.getElem?_range (by omega)] at hge
   obtain ⟨t1,a1,b1,q1,c1,f1⟩:=hge
   obtain ⟨⟨t3,a3,b3,d3,m3,f3'⟩,-⟩:=ae Y3
   have c2:=(ae HI).cel.but (ae BS3) (by simp)
   have f2:=(ae HI).rat.but (ae BS3)
   have lt:=len_trN no r n hn (ae LN) (ae LR) k (by omega)
   have n8:g8≠gq:=by omega
   refine chances_region 13 _ _ V V.heap.size (fun v w'=>(∃ vs',aw w' BB v ((List.range (k+1)).map (trN no r n)++[trN no r n k*(r*f3)]) vs')∧∃ wm,But [] V wm∧But [gq] wm w') t1 a1 b1 q1 v1 v2 v3 v4 t3 a3 b3 d3 gq (k+1) cap k g8 (trN no r n k) r f3 gq g11 sq (by simp) rfl hl1 hsq (by simp [Act.eval]) (by simp [Act.eval]) (by simp [Act.eval]) (by simp [Act.eval]) (by omega) (by omega) c1 c2 m3 (fun w' hb=>fracMul_any _ _ r f3 w' (f2.but hb) (f3'.but hb) ((ae LR).mono (by omega)) (l3.mono (by omega))) (fun w' hb v hv=>fracMul_any _ _ (trN no r n k) (r*f3) w' (f1.but hb) hv (lt.mono (by omega)) ((len_mul (ae LR) l3 6 (by omega)).mono (by omega))) (fun w' g s x y p hb hg hP hF=>by
    obtain ⟨v',w'',hr,hg',b,hb1,hb2,hb3,-⟩:=(hG.but hb).push (by simp;omega) g s x y p hP _ hF
    obtain rfl:gq=b:=by simpa [Value.ownBlock] using hb2
    exact ⟨v',w'',hr,hb3,⟨_,hg'⟩,w',hb,hb3⟩) ?_
   rintro w5 v8 v9 v10 v11 ⟨⟨vs',hg5⟩,wm,hm1,hm2⟩
   simp only [bb,List.foldl_cons,List.foldl_nil,Act.put,List.setIfInBounds_toArray,List.set_cons_zero,List.set_cons_succ]
   obtain ⟨gq5,cap5,e5,-⟩:=hg5.form
   simp only [List.length_append,List.length_map,List.length_range,List.length_cons,List.length_nil,Nat.zero_add] at e5
   have bw:=(ae BS3).trans' hm1
   have I5:Hid (ChanI w w5 BB g8 v1 v2 v3 v4 no r n (k+1) v11):=⟨((ae HI).but.trans' bw).trans hm2 (fun x hx=>by simp at hx;subst hx;exact .inr (by have:=ae HB8;omega)),hm2.ag (bw.ag (ae HI).pow (by simp)) (by simpa using n8),((ae HI).cel.but bw (by simp)).but hm2 (by simpa using n8),((ae HI).rat.but bw).over (hm1.ag hsq (by simp)) hm2,vs',by
    rw [List.range_succ,List.map_append,List.map_cons,List.map_nil]
    rw [e3'] at hg5
    exact hg5⟩
   subst e5
   clear hg5 hm1 hm2 bw hG hgr c1 f1 m3 f3' c2 f2 lt HI Y3 BS3 hsq
   go_wp2
   exact ⟨⟨k+1,by omega,by go_num,⟨gq5,cap5,rfl⟩,ae I5⟩,by simp [intOf];omega⟩
  ·obtain rfl:k=n:=by omega
   obtain ⟨vs,hgr⟩:=(ae HI).row
   have hb:=(ae HI).but
   have HG:=af (hgr.base (ae HB8))
   have HBB:=af hb
   clear hgr hb HI
   go_wp2
   exact bodyPost_ret (v:=.tuple #[.slice (some ⟨gq,0,none⟩) (k+1) cap,.nilIface]) (by simp [results,Tryz.results11,go_sem]) rfl ⟨_,rfl,⟨vs,ae HG⟩,ae HBB⟩
end Go.Proofs.YtlckjpelcmjimaaGreatDoor
