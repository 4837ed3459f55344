/- How likely each amount of all claims tog -/
import Derived.Test.YtlckjpelcmjimaaGreatDoorKPZI
namespace Go.Proofs.YtlckjpelcmjimaaGreatDoor
open Go.RowKit
set_option maxHeartbeats 32000000
set_option maxRecDepth 100000
theorem div_oneZ (x:Rat):x/((1:Int):Rat)=x:=by
 rw [show ((1:Int):Rat)=1 from rfl]
 grind
theorem waysOf_L (v:Value) (bl:List Rat) (mm:Nat) (w:World) (mx:Int) (c:Nat) (hv:an w v bl) (hm:bl.length=mm) (hl:mm≤1000) (lf:∀ f ∈ bl,Len f c) (hc:c≤100) (htab:Lib.TabIs Tryz.prog w "internal/strconv.uint64pow10" .u64 Lib.pow10Tab) (hmx:w.cell? ⟨4,0,none⟩=some (.int .i64 mx)) (wl:List Rat) (uN:Nat) (hw:wl=ay bl) (hu:uN=comN 1 bl) :
  Calls Tryz.prog 54 #[v] w fun e w'=>∃ g s x y p,e=.returned (.agg #[.slice (some ⟨g,0,none⟩) mm mm,.bool s,.int .u64 x,.int .u64 y,.pointer p])∧am w' (.agg #[.bool s,.int .u64 x,.int .u64 y,.pointer p]) ((uN:Int):Rat)∧an w' (.slice (some ⟨g,0,none⟩) mm mm) wl∧w.heap.size≤g∧g<w'.heap.size∧But [] w w':=by
 subst hm
 refine (waysOf_any v bl w mx c hv hl lf hc htab hmx).mono ?_
 rintro e w' ⟨g,s,x,y,p,he,hf,hr,h1,h2,hb⟩
 refine ⟨g,s,x,y,p,he,by rw [hu];exact hf,?_,h1,h2,hb⟩
 rw [hw]
 exact hr.fracs
theorem together_any (n U nn cc b off mm:Nat) (a1:Bool) (a2 a3:Int) (a4:Option Addr) (b1:Bool) (b2 b3:Int) (b4:Option Addr) (fs:List Rat) (f0 r:Rat) (mx:Int) (w:World)
  (hfs:an w (.slice (some ⟨b,off,none⟩) nn cc) fs) (hnn:nn=fs.length) (hn1:1≤nn) (hn2:nn≤60) (hnc:nn≤cc) (hU:U≤60) (hmm:mm=min nn (U+1))
  (hno:am w (.agg #[.bool a1,.int .u64 a2,.int .u64 a3,.pointer a4]) f0) (hra:am w (.agg #[.bool b1,.int .u64 b2,.int .u64 b3,.pointer b4]) r) (lfs:∀ f ∈ fs,Len f 1) (lr:Len r 5) (ln:Len f0 24) (hn:n≤8)
  (htab:Lib.TabIs Tryz.prog w "internal/strconv.uint64pow10" .u64 Lib.pow10Tab) (hmx:w.cell? ⟨4,0,none⟩=some (.int .i64 mx))
  (hb0:lf (ay (baL fs r mm)) 0≠0) (hu0:0<comN 1 (baL fs r mm)) (lbl:∀ f ∈ baL fs r mm,Len f 8) (lwl:∀ f ∈ ay (baL fs r mm),Len f 100) (lu:Len (((comN 1 (baL fs r mm):Nat):Int):Rat) 100) (lp:∀ i,i≤U→Len (pw (lf (ay (baL fs r mm))) n i) 1000) :
  Calls Tryz.prog 61 #[.agg #[.bool a1,.int .u64 a2,.int .u64 a3,.pointer a4,.bool b1,.int .u64 b2,.int .u64 b3,.pointer b4,.int .i64 (n:Int)],.slice (some ⟨b,off,none⟩) nn cc,.int .i64 (U:Int)] w fun e w'=>∃ g,e=.returned (.slice (some ⟨g,0,none⟩) (U+1) (U+1))∧Row4 w' g (U+1) (U+1) (fun i=>pw (lf (ay (baL fs r mm))) n i*(rpow (((comN 1 (baL fs r mm):Nat):Int):Rat)⁻¹ n*f0))∧But [] w w':=by
 obtain ⟨wl,EW⟩:∃ wl,wl=ay (baL fs r mm):=⟨_,rfl⟩
 obtain ⟨uN,EU⟩:∃ uN,uN=comN 1 (baL fs r mm):=⟨_,rfl⟩
 rw [← EW] at hb0 lwl lp
 rw [← EU] at hu0 lu
 rw [← EW,← EU]
 have hm1:1≤mm:=by omega
 have hmn:mm≤nn:=by omega
 have ltk:(fs.take mm).length=mm:=by rw [List.length_take];omega
 have lbL:(baL fs r mm).length=mm:=by unfold baL;simp
 have lwlen:wl.length=mm:=by rw [EW];unfold ay;simp [lbL]
 have HEW:=af EW
 have HEU:=af EU
 clear EW EU
 obtain ⟨ws,wx,FW,CW⟩:=whole_is 1 (by omega) (by omega)
 have l1:Len (((1:Int):Rat)) 1:=len_int 1 (by decide)
 have lt0:∀ i,i<mm→Len ((fs.take mm)[i]?.getD 0) 1:=fun i hi=>by
  rw [List.getElem?_eq_getElem (by omega)]
  exact lfs _ (List.mem_of_mem_take (List.getElem_mem _))
 have TM:=af (fun W (h:But [] w W)=>times_any _ _ (fs.take mm) r W ((hfs.cut mm (by omega)).but h) (hra.but h) (by omega) (fun f hf=>(lfs f (List.mem_of_mem_take hf)).mono (by omega)) (lr.mono (by omega)))
 rw [ltk] at TM
 have HTAB:=af htab
 have HMX:=af hmx
 have LR:=af lr
 have HNO:=af hno
 have HRA:=af hra
 obtain ⟨W,hW⟩:∃ W,W=w.alloc (.cells #[.bool a1,.int .u64 a2,.int .u64 a3,.pointer a4,.bool b1,.int .u64 b2,.int .u64 b3,.pointer b4,.int .i64 (n:Int)] 98):=⟨_,rfl⟩
 have X3:Hid (SBox W w.heap.size [.bool a1,.int .u64 a2,.int .u64 a3,.pointer a4,.bool b1,.int .u64 b2,.int .u64 b3,.pointer b4,.int .i64 (n:Int)]):=by
  show SBox _ _ _
  rw [hW]
  exact SBox.new w _ _
 have BW:Hid (But [] w W):=by
  show But _ _ _
  rw [hW]
  exact (But.refl _ _).alloc _
 have HMM:=af hmm
 have HNN:=af hnn
 have HCW:=af CW
 have HFW:=af FW
 clear hfs htab hmx hno hra lfs lr hnn CW FW hmm
 go_enter Tryz.func61,Tryz.ntmps61
 go_wp2
 rw [← hW]
 obtain ⟨g3,hg3⟩:∃ g3,g3=w.heap.size:=⟨_,rfl⟩
 rw [← hg3] at X3
 rw [← hg3]
 have O3:Hid (w.heap.size≤g3):=by show _≤_;omega
 clear hW hg3
 refine together_region1 1 _ _ W W.heap.size g3 b off nn cc U mm b1 b2 b3 b4 (fun i=>(fs.take mm)[i]?.getD 0*r) (by simp) (by simp [Act.eval]) (by simp [Act.eval]) (by simp [Act.eval]) rfl (by omega) (ae HMM) (by omega) hnc ⟨(ae X3).cells 4 _ rfl,(ae X3).cells 5 _ rfl,(ae X3).cells 6 _ rfl,(ae X3).cells 7 _ rfl⟩ (fun W' hb=>(ae TM W' ((ae BW).trans' hb)).mono fun e w' ⟨g,he,hr,h1,h2,hb⟩=>⟨g,he,hr.of,h1,h2,hb⟩) ?_
 rintro w1 v9 v10 hb1 ⟨gb,rfl,hrow,hgb1,hgb2⟩
 simp only [bb,List.foldl_cons,List.foldl_nil,Act.put,List.setIfInBounds_toArray,List.set_cons_zero,List.set_cons_succ]
 have B1:=af ((ae BW).trans' hb1)
 have X31:=af ((ae X3).but hb1 (by simp) (by simp))
 have R1:=af hrow
 obtain ⟨s1,x1,y1,p1,k1,f1⟩:=hrow.told 0 (by omega)
 rw [Nat.zero_mul] at k1
 have OB:Hid (W.heap.size≤gb):=hgb1
 have l31:g3<W.heap.size:=(ae X3).lt (by simp)
 clear hrow hb1 X3 hgb1 TM
 go_wp2
 refine together_region2 2 _ _ w1 gb 0 mm ws wx s1 x1 y1 p1 ((fs.take mm)[0]?.getD 0*r) (by simp) k1 (ae R1).loose (by simp [Act.eval]) rfl (by omega) k1 (ae HCW) (fun w' hb=>fracAdd_any _ _ _ _ w' (f1.but hb) (ae HFW w') ((len_mul (lt0 0 (by omega)) (ae LR) 6 (by omega)).mono (by omega)) (l1.mono (by omega))) ?_
 intro w2 s2 x2 y2 p2 hb2 hf2
 simp only [bb,List.foldl_cons,List.foldl_nil,Act.put,List.setIfInBounds_toArray,List.set_cons_zero,List.set_cons_succ]
 have row2:=((ae R1).but hb2 hgb2).set (i:=0) (by omega) s2 x2 y2 p2 _ hf2
 have hS:=bf w2 gb [.bool s2,.int .u64 x2,.int .u64 y2,.pointer p2] 0
 rw [Nat.zero_mul] at row2
 have bN:But [] w (w2.setCells gb 0 [.bool s2,.int .u64 x2,.int .u64 y2,.pointer p2]):=((ae B1).trans' hb2).trans hS (fun x hx=>by simp at hx;subst hx;exact .inr (Nat.le_trans (ae BW).size (ae OB)))
 have X32:=af (((ae X31).but hb2 (by simp) (by simp)).but hS (by simp;have:=ae OB;omega) (by simp))
 generalize w2.setCells gb 0 [.bool s2,.int .u64 x2,.int .u64 y2,.pointer p2]=V at *
 have hfr:an V (.slice (some ⟨gb,0,none⟩) mm mm) (baL fs r mm):=row2.fracs
 have WA:=af (waysOf_L _ (baL fs r mm) mm V mx 8 hfr lbL (by omega) lbl (by omega) (TabIs.but (ae HTAB) bN) (bN.ag (ae HMX) (by simp)) wl uN (ae HEW) (ae HEU))
 have B2:=af bN
 clear row2 hS bN hb2 hf2 hfr X31 R1 B1 k1 f1 BW HTAB HMX HCW
 go_wp2_with fail
 refine (ae WA).mono ?_
 rintro e w3 ⟨gw,su,xu,yu,pu,rfl,hfu,hwl,hgw1,hgw2,hb3⟩
 have bs3:=hb3.trans' ((But.refl _ _).alloc (.cells #[.slice (some ⟨gw,0,none⟩) mm mm,.bool su,.int .u64 xu,.int .u64 yu,.pointer pu] 103))
 have B3:=af ((ae B2).trans' bs3)
 have x33:=(ae X32).but bs3 (by simp) (by simp)
 have X33:=af x33
 have x8:=SBox.new w3 [.slice (some ⟨gw,0,none⟩) mm mm,.bool su,.int .u64 xu,.int .u64 yu,.pointer pu] 103
 have X8:=af x8
 have bal:=(But.refl [] w3).alloc (.cells #[.slice (some ⟨gw,0,none⟩) mm mm,.bool su,.int .u64 xu,.int .u64 yu,.pointer pu] 103)
 have WL:=af (hwl.but bal)
 have FU:=af (hfu.but bal)
 have hg8a:w3.heap.size<(w3.alloc (.cells #[.slice (some ⟨gw,0,none⟩) mm mm,.bool su,.int .u64 xu,.int .u64 yu,.pointer pu] 103)).heap.size:=by simp
 have SE:=af (seriesOf_any n a1 a2 a3 a4 b1 b2 b3 b4 gw 0 mm mm su xu yu pu wl ((uN:Int):Rat) 100 _ (hwl.but bal) (by omega) (hfu.but bal) hn (lwl _ (by rw [List.getElem?_eq_getElem (by omega)];exact List.getElem_mem _)) lu (by omega) (by omega) (by rw [(bd _).1];omega))
 have q0:=x33.cells 0 _ rfl
 have q1:=x33.cells 1 _ rfl
 have q2:=x33.cells 2 _ rfl
 have q3:=x33.cells 3 _ rfl
 have q4:=x33.cells 4 _ rfl
 have q5:=x33.cells 5 _ rfl
 have q6:=x33.cells 6 _ rfl
 have q7:=x33.cells 7 _ rfl
 have q8:=x33.cells 8 _ rfl
 clear x33 x8 bal hwl hfu hb3 bs3 X32 B2 WA
 go_wp2_with fail
 refine (ae SE).mono ?_
 rintro e w4 ⟨gr,t1,t2,t3,t4,u1,u2,u3,u4,v1,v2,v3,v4,rfl,⟨vs,hgr⟩,hsc,hgs,hby,hb4⟩
 clear q0 q1 q2 q3 q4 q5 q6 q7 q8 SE
 generalize hV3:w3.alloc (.cells #[.slice (some ⟨gw,0,none⟩) mm mm,.bool su,.int .u64 xu,.int .u64 yu,.pointer pu] 103)=V3 at *
 generalize hg8:w3.heap.size=g8 at *
 have bal:=(But.refl [] w4).alloc (.cells #[.slice (some ⟨gr,0,none⟩) 1 1,.bool t1,.int .u64 t2,.int .u64 t3,.pointer t4,.bool u1,.int .u64 u2,.int .u64 u3,.pointer u4,.bool v1,.int .u64 v2,.int .u64 v3,.pointer v4] 169)
 have bs4:=hb4.trans' bal
 have x9:=SBox.new w4 [.slice (some ⟨gr,0,none⟩) 1 1,.bool t1,.int .u64 t2,.int .u64 t3,.pointer t4,.bool u1,.int .u64 u2,.int .u64 u3,.pointer u4,.bool v1,.int .u64 v2,.int .u64 v3,.pointer v4] 169
 have T9:=TBox.new w4 #[.slice (some ⟨gr,0,none⟩) 1 1,.bool t1,.int .u64 t2,.int .u64 t3,.pointer t4,.bool u1,.int .u64 u2,.int .u64 u3,.pointer u4,.bool v1,.int .u64 v2,.int .u64 v3,.pointer v4] 169
 have OG:Hid (V3.heap.size≤w4.heap.size):=hb4.size
 have owl:gw<V3.heap.size:=by have:=hgw2;omega
 have I0:Hid (TogI w (w4.alloc (.cells #[.slice (some ⟨gr,0,none⟩) 1 1,.bool t1,.int .u64 t2,.int .u64 t3,.pointer t4,.bool u1,.int .u64 u2,.int .u64 u3,.pointer u4,.bool v1,.int .u64 v2,.int .u64 v3,.pointer v4] 169)) g3 g8 w4.heap.size V3.heap.size gw mm n [.bool a1,.int .u64 a2,.int .u64 a3,.pointer a4,.bool b1,.int .u64 b2,.int .u64 b3,.pointer b4,.int .i64 (n:Int)] [.slice (some ⟨gw,0,none⟩) mm mm,.bool su,.int .u64 xu,.int .u64 yu,.pointer pu] t1 t2 t3 t4 u1 u2 u3 u4 v1 v2 v3 v4 a1 a2 a3 a4 wl ((uN:Int):Rat) f0 0) :=
  ⟨(ae B3).trans' bs4,(ae X33).but bs4 (by simp) (by simp),(ae X8).but bs4 (by simp) (by simp),T9,(ae WL).but bs4,hsc.but bal,hgs.but bal,hby.but bal,(ae HNO).but ((ae B3).trans' bs4),gr,1,vs,x9,by
   have:=hgr.but bal
   rw [show (List.range (0+1)).map (pw (lf wl) n)=[rpow (wl[0]?.getD 0) n] from by
    show [pw (lf wl) n 0]=_
    rw [pw_zero]
    rfl]
   exact this⟩
 have O3B:g3<V3.heap.size:=(ae X33).lt (by simp)
 have OWB:Hid (w.heap.size≤V3.heap.size):=(ae B3).size
 clear bal bs4 x9 T9 hgr hsc hgs hby hb4 B3 X33 X8 WL FU hgw1 hgw2
 go_wp2
 generalize hV4:w4.alloc (.cells #[.slice (some ⟨gr,0,none⟩) 1 1,.bool t1,.int .u64 t2,.int .u64 t3,.pointer t4,.bool u1,.int .u64 u2,.int .u64 u3,.pointer u4,.bool v1,.int .u64 v2,.int .u64 v3,.pointer v4] 169)=V4 at *
 generalize hg9:w4.heap.size=g9 at *
 generalize hB9:V3.heap.size=B9 at *
 clear hV4 hg9 hB9 hV3 hg8
 go_loopw [37] (fun i wr=>∃ t:Nat,t≤U∧i=.int .i64 (t:Int)∧Hid (TogI w wr g3 g8 g9 B9 gw mm n [.bool a1,.int .u64 a2,.int .u64 a3,.pointer a4,.bool b1,.int .u64 b2,.int .u64 b3,.pointer b4,.int .i64 (n:Int)] [.slice (some ⟨gw,0,none⟩) mm mm,.bool su,.int .u64 xu,.int .u64 yu,.pointer pu] t1 t2 t3 t4 u1 u2 u3 u4 v1 v2 v3 v4 a1 a2 a3 a4 wl ((uN:Int):Rat) f0 t)) (fun i _=>U-(intOf i).toNat)
 case atStart=>exact ⟨0,Nat.zero_le _,rfl,ae I0⟩
 case round =>
  obtain ⟨t,ht,rfl,HI⟩:=hrel
  rename World=>wr
  clear I0
  by_cases hlt:t<U
  ·obtain ⟨gq,cap,vs,hx,hg⟩:=(ae HI).xs
   have hT:=(ae HI).tb
   have w80:=(ae HI).xw.cells 0 _ rfl
   have f38:=(ae HI).xf.cells 8 _ rfl
   have NX:=af (next_any g9 gq cap (t+1) B9 gw 0 mm mm (n+1) t1 t2 t3 t4 u1 u2 u3 u4 v1 v2 v3 v4 wl ((List.range (t+1)).map (pw (lf wl) n)) (lf wl 0) vs wr hx hg (by simp) hT (by omega) (ae HI).gs (ae HI).by_ (fun h=>hb0 (Rat.num_eq_zero.1 h)) (ae HI).fb (by omega) (by omega) (by omega) (by omega) (lwl _ (by show wl[0]?.getD 0 ∈ wl;rw [List.getElem?_eq_getElem (by omega)];exact List.getElem_mem _)) lwl (fun f hf=>by
    obtain ⟨i,hi,rfl⟩:=List.mem_map.1 hf
    exact lp i (by have:=List.mem_range.1 hi;omega)))
   have eN:=next_is wl n (t+1) (by omega) hb0 (by omega)
   rw [show wl.length-1=mm-1 from by omega] at eN
   rw [eN] at NX
   rw [show (((n+1:Nat)):Int)=(n:Int)+1 from by omega] at NX
   have HXX:=af hx
   have HGG:=af hg
   clear hx hg hT eN
   go_wp2_with fail
   refine (ae NX).mono ?_
   rintro e w5 ⟨rfl,gq',cap',vs',hx',hg',hT',wm,hm1,hm2⟩
   have I5:=af ((ae HI).next (ae HXX) (ae HGG) hm1 hm2 hx' hg' hT' O3B (by omega) (ae OG) owl (ae OWB) (by simp) (by simp))
   clear hx' hg' hT' hm1 hm2 HI HXX HGG NX w80 f38
   go_wp2
   exact ⟨⟨t+1,by omega,by go_num,ae I5⟩,by simp [intOf];omega⟩
  ·obtain rfl:t=U:=by omega
   obtain ⟨gq,cap,vs,hx,hg⟩:=(ae HI).xs
   have hmk:=fun wx=>run_makeF wx (t+1) (by omega)
   have ec:(((t+1:Nat)):Int)=(t:Int)+1:=by omega
   simp only [ec] at hmk
   clear ec
   obtain ⟨V,hV⟩:∃ V,V=wr.alloc (.cells (madeCells #[.bool false,.int .u64 0,.int .u64 0,.pointer none] ((t+1)*4)) 29):=⟨_,rfl⟩
   have bV:But [] wr V:=by rw [hV];exact (But.refl _ _).alloc _
   have rV:Row4 V wr.heap.size (t+1) 0 (fun i=>pw (lf wl) n i*(rpow ((uN:Int):Rat)⁻¹ n*f0)):=by rw [hV];exact Row4.made wr (t+1) _
   have lV:wr.heap.size<V.heap.size:=by rw [hV];simp
   have xV:=hx.but bV (by simp) (by simp)
   have xfV:=(ae HI).xf.but bV (by simp) (by simp)
   have lsc:Len (rpow ((uN:Int):Rat)⁻¹ n) 800:=len_rpow8 (len_inv lu (by rw [(bd _).1];omega)) hn (by omega)
   have MU:=af (fun W (h:But [] V W)=>in_parts (fracMul_any _ _ (rpow ((uN:Int):Rat)⁻¹ n) f0 W ((ae HI).sc.but (bV.trans' h)) ((ae HI).no.but (bV.trans' h)) (lsc.mono (by omega)) (ln.mono (by omega))))
   have lSC:Len (rpow ((uN:Int):Rat)⁻¹ n*f0) 824:=len_mul lsc ln _ (by omega)
   generalize hSC:rpow ((uN:Int):Rat)⁻¹ n*f0=SC at *
   have HSC:=af hSC
   clear hSC
   have e1:=xV.cells 1 _ rfl
   have e2:=xV.cells 2 _ rfl
   have e3:=xV.cells 3 _ rfl
   have e4:=xV.cells 4 _ rfl
   have k0:=xfV.cells 0 _ rfl
   have k1:=xfV.cells 1 _ rfl
   have k2:=xfV.cells 2 _ rfl
   have k3:=xfV.cells 3 _ rfl
   rw [hV] at e1 e2 e3 e4 k0 k1 k2 k3
   have XV:=af xV
   have RV:=af rV
   have GV:=af (hg.but bV).fracs
   have BV:=af bV
   have HVE:=af hV
   have LV:=af lV
   clear xV xfV rV bV hx hg hV lV lsc
   go_wp2_with fail
   rw [← ae HVE]
   refine (ae MU _ (But.refl _ _)).mono ?_
   rintro e w6 ⟨s6,x6,y6,p6,rfl,hf6,hb6⟩
   clear e1 e2 e3 e4 k0 k1 k2 k3 hmk MU
   have bs6:=hb6.trans' ((But.refl _ _).alloc (.cells #[.bool s6,.int .u64 x6,.int .u64 y6,.pointer p6] 29))
   have x96:=(ae XV).but bs6 (by simp) (by simp)
   have J0:Hid (Row4 (w6.alloc (.cells #[.bool s6,.int .u64 x6,.int .u64 y6,.pointer p6] 29)) wr.heap.size (t+1) 0 (fun i=>pw (lf wl) n i*SC)∧ax (w6.alloc (.cells #[.bool s6,.int .u64 x6,.int .u64 y6,.pointer p6] 29)) w6.heap.size SC∧P4o (w6.alloc (.cells #[.bool s6,.int .u64 x6,.int .u64 y6,.pointer p6] 29)) g9 5 u1 u2 u3 u4∧am (w6.alloc (.cells #[.bool s6,.int .u64 x6,.int .u64 y6,.pointer p6] 29)) (.agg #[.bool u1,.int .u64 u2,.int .u64 u3,.pointer u4]) ((1:Int):Rat)∧an (w6.alloc (.cells #[.bool s6,.int .u64 x6,.int .u64 y6,.pointer p6] 29)) (.slice (some ⟨gq,0,none⟩) (t+1) cap) ((List.range (t+1)).map (pw (lf wl) n))∧wr.heap.size<(w6.alloc (.cells #[.bool s6,.int .u64 x6,.int .u64 y6,.pointer p6] 29)).heap.size∧But [] w (w6.alloc (.cells #[.bool s6,.int .u64 x6,.int .u64 y6,.pointer p6] 29))) :=
    ⟨(ae RV).but bs6 (ae LV),ax.new w6 s6 x6 y6 p6 _ 29 hf6,⟨x96.cells 5 _ rfl,x96.cells 6 _ rfl,x96.cells 7 _ rfl,x96.cells 8 _ rfl⟩,(ae HI).gs.but ((ae BV).trans' bs6),(ae GV).but bs6,Nat.lt_of_lt_of_le (ae LV) bs6.size,((ae HI).but.trans' (ae BV)).trans' bs6⟩
   have q0:=x96.cells 0 _ rfl
   have ngG:g9<wr.heap.size:=by
    have:=(ae HI).xs
    obtain ⟨_,_,_,hx,-⟩:=this
    exact hx.lt (by simp)
   have oG:w.heap.size≤wr.heap.size:=(ae HI).but.size
   have o11:wr.heap.size<w6.heap.size:=Nat.lt_of_lt_of_le (ae LV) hb6.size
   have ngq:gq<wr.heap.size:=by
    obtain ⟨gx,cx,vx,hxx,hgg⟩:=(ae HI).xs
    have e0:=hxx.cells 0 _ rfl
    have e0':=(ae XV).cells 0 _ rfl
    rw [(ae BV).ag e0 (by simp)] at e0'
    simp only [Option.some.injEq,Value.slice.injEq,Addr.mk.injEq,and_true,true_and] at e0'
    obtain ⟨gy,cy,ey,-,hlt,-⟩:=hgg.form
    simp only [Value.slice.injEq,Option.some.injEq,Addr.mk.injEq,and_true] at ey
    omega
   clear hf6 hb6 bs6 x96 XV RV GV BV HI LV HVE
   clear V
   go_wp2
   generalize hW7:w6.alloc (.cells #[.bool s6,.int .u64 x6,.int .u64 y6,.pointer p6] 29)=W7 at *
   generalize hg11:w6.heap.size=g11 at *
   generalize hG:wr.heap.size=G at *
   have n9:g9<B9∨B9≤g9:=by omega
   clear hW7 hg11 hG q0
   go_loopw [57] (fun i wq=>∃ k:Nat,k≤t+1∧i=.int .i64 (k:Int)∧Hid (Row4 wq G (t+1) k (fun i=>pw (lf wl) n i*SC)∧ax wq g11 SC∧P4o wq g9 5 u1 u2 u3 u4∧am wq (.agg #[.bool u1,.int .u64 u2,.int .u64 u3,.pointer u4]) ((1:Int):Rat)∧an wq (.slice (some ⟨gq,0,none⟩) (t+1) cap) ((List.range (t+1)).map (pw (lf wl) n))∧G<wq.heap.size∧But [] w wq)) (fun i _=>t+1-(intOf i).toNat)
   case atStart=>exact ⟨0,Nat.zero_le _,rfl,ae J0⟩
   case round =>
    obtain ⟨k,hk,rfl,HJ⟩:=hrel
    rename World=>wq
    clear J0
    by_cases hlt2:k<t+1
    ·obtain ⟨hrow,hbx,hgc,hgf,hos,hG2,hb⟩:=ae HJ
     have hge:=hos.get k hlt2
     rw [List.getElem?_map,List.getElem?_range (by omega)] at hge
     obtain ⟨sr,xr,yr,pr,⟨r0,r1,r2,r3⟩,hfr⟩:=hge
     simp only [Nat.zero_add] at r0 r1 r2 r3
     obtain ⟨⟨sb,xb,yb,pb,cb,hfb⟩,zb⟩:=hbx
     have lk:=lp k (by omega)
     have M2:=af (fun W (h:But [] wq W)=>in_parts (fracMul_any _ _ (pw (lf wl) n k) SC W (hfr.but h) (hfb.but h) (lk.mono (by omega)) (lSC.mono (by omega))))
     have BA:Hid (But [] wq (wq.alloc (.cells #[.bool sr,.int .u64 xr,.int .u64 yr,.pointer pr] 29))):=(But.refl _ _).alloc _
     have CB:=af cb
     obtain ⟨b0',b1',b2',b3'⟩:=cb
     have lB:g11<wq.heap.size:=ai b0'
     clear hrow hgc hgf hos hb hfr hfb lk
     go_wp2_with fail
     refine (ae M2 _ (ae BA)).mono ?_
     rintro e w7 ⟨s7,x7,y7,p7,rfl,hf7,hb7⟩
     have B7:Hid (But [] wq w7):=(ae BA).trans' hb7
     have HF7:=af hf7
     have hrow7:=(ae HJ).1.but (ae B7) hG2
     have R7:=af hrow7
     have pf:=hrow7.loose
     obtain ⟨k0,k1,k2,k3⟩:=hrow7.blank k (Nat.le_refl _) hlt2
     obtain ⟨c0,c1,c2,c3⟩:=(ae CB).but (ae B7) (by simp)
     obtain ⟨d0,d1,d2,d3⟩:=(ae HJ).2.2.1.but (ae B7) (by simp)
     have hgne:¬ g11=G:=by omega
     have hgne':¬ G=g11:=by omega
     have hg9':¬ G=g9:=by omega
     clear hf7 hb7 M2 BA r0 r1 r2 r3 b0' b1' b2' b3' hrow7
     go_wp2_with fail
     change Calls Tryz.prog _ _ (w7.setCells G (k*4) [.bool s7,.int .u64 x7,.int .u64 y7,.pointer p7]) _
     obtain ⟨sG,hsG⟩:=(ae R7).bool (by omega)
     have hS:=bf w7 G [.bool s7,.int .u64 x7,.int .u64 y7,.pointer p7] (k*4)
     obtain ⟨-,hbx,hgc,hgf,hos,-,hb⟩:=ae HJ
     have hcG:∀ g ∈ [G],∃ s,w7.cell? ⟨g,0,none⟩=some (.bool s):=fun g hg=>by simp at hg;subst hg;exact ⟨_,hsG⟩
     have r8:=(ae R7).next hlt2 s7 x7 y7 p7 (ae HF7)
     have y8:=(hbx.but (ae B7)).beside hS (by simp;omega) hcG
     have p8:=(hgc.but (ae B7) (by simp)).but hS (by simp;omega)
     have f8:=(hgf.but (ae B7)).over hsG hS
     have o8':=(hos.but (ae B7)).besideB hS hsG (fun b off n c e=>by simp only [Value.slice.injEq,Option.some.injEq,Addr.mk.injEq] at e;omega)
     have bb8:But [] w (w7.setCells G (k*4) [.bool s7,.int .u64 x7,.int .u64 y7,.pointer p7]):=(hb.trans' (ae B7)).trans hS (fun x hx=>by simp at hx;subst hx;exact .inr oG)
     have hG8:G<(w7.setCells G (k*4) [.bool s7,.int .u64 x7,.int .u64 y7,.pointer p7]).heap.size:=Nat.lt_of_lt_of_le (Nat.lt_of_lt_of_le hG2 (ae B7).size) hS.size
     have cb8:=((ae CB).but (ae B7) (by simp)).but hS (by simp;omega)
     obtain ⟨⟨sy,xy,yy,py,cy,fy⟩,-⟩:=id y8
     have hfsb:am (w7.setCells G (k*4) [.bool s7,.int .u64 x7,.int .u64 y7,.pointer p7]) (.agg #[.bool sb,.int .u64 xb,.int .u64 yb,.pointer pb]) SC:=by
      obtain ⟨y0,y1,y2,y3⟩:=cy
      obtain ⟨z0,z1,z2,z3⟩:=cb8
      rw [z0] at y0
      rw [z1] at y1
      rw [z2] at y2
      rw [z3] at y3
      simp only [Option.some.injEq,Value.bool.injEq,Value.int.injEq,Value.pointer.injEq,true_and] at y0 y1 y2 y3
      rw [y0,y1,y2,y3]
      exact fy
     generalize w7.setCells G (k*4) [.bool s7,.int .u64 x7,.int .u64 y7,.pointer p7]=W8 at *
     have QU:=af (in_parts (quotient_any _ _ SC ((1:Int):Rat) W8 hfsb f8 (lSC.mono (by omega)) (l1.mono (by omega)) (by rw [(bd _).1];decide)))
     have R8:=af r8
     have Y8:=af y8
     have P8:=af p8
     have F8:=af f8
     have O8:=af o8'
     have BB8:=af bb8
     clear r8 y8 p8 f8 o8' bb8 cb8 hfsb cy fy hS hbx hgc hgf hos hb hcG hsG HJ R7 B7 CB HF7 pf k0 k1 k2 k3 c0 c1 c2 c3 d0 d1 d2 d3
     refine (ae QU).mono ?_
     rintro e w9 ⟨s9,x9,y9,p9,rfl,hf9,hb9⟩
     rw [div_oneZ] at hf9
     have y9':=(ae Y8).but hb9
     have Y9:=af y9'
     have HF9:=af hf9
     have B9':=af hb9
     obtain ⟨⟨t9,v9',z9,q9,⟨j0,j1,j2,j3⟩,-⟩,jz⟩:=y9'
     clear hf9 hb9 QU
     go_wp2
     change _∧_
     have hP:=au w9 g11 s9 x9 y9 p9
     obtain ⟨sb9,hsb9⟩:=(ae Y9).bool
     have hc11:∀ g ∈ [g11],∃ s,w9.cell? ⟨g,0,none⟩=some (.bool s):=fun g hg=>by simp at hg;subst hg;exact ⟨_,hsb9⟩
     exact ⟨⟨k+1,by omega,by go_num,((ae R8).but (ae B9') hG8).beside hP (Nat.lt_of_lt_of_le hG8 (ae B9').size) (by simp;omega) hc11,(ae Y9).put (ae HF9),((ae P8).but (ae B9') (by simp)).but hP (by simp;omega),((ae F8).but (ae B9')).over hsb9 hP,((ae O8).but (ae B9')).besideB hP hsb9 (fun b off n c e=>by simp only [Value.slice.injEq,Option.some.injEq,Addr.mk.injEq] at e;omega),Nat.lt_of_lt_of_le (Nat.lt_of_lt_of_le hG8 (ae B9').size) hP.size,((ae BB8).trans' (ae B9')).trans hP (fun x hx=>by simp at hx;subst hx;exact .inr (by omega))⟩,by simp [intOf];omega⟩
    ·obtain rfl:k=t+1:=by omega
     go_wp2
     go_ret
     exact ⟨G,rfl,by rw [ae HSC];exact (ae HJ).1,(ae HJ).2.2.2.2.2.2⟩
end Go.Proofs.YtlckjpelcmjimaaGreatDoor
