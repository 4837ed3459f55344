/- Whether a law may be, as the Go text of  -/
import Derived.Test.YtagmkkiagjmimaaGreatDoorXBW
import Derived.Test.YtagmkkiagjmimaaGreatDoorXD1
import Derived.Test.YtagmkkiagjmimaaGreatDoorXOGr
namespace Go.Proofs.YtagmkkiagjmimaaGreatDoor
set_option linter.unusedVariables false
open Go.Proofs.Tryz
open Go.RowKit
set_option maxHeartbeats 16000000
set_option maxRecDepth 100000
def zcs (fs:List Rat):Rat:=fs.foldl (fun s f=>s+f) 0
theorem zib (fs:List Rat) (k:Nat) (hk:k<fs.length):zcs (fs.take (k+1))=zcs (fs.take k)+fs[k]?.getD 0:=by(
 unfold zcs
 rw[List.take_add_one,List.getElem?_eq_getElem hk,List.foldl_append]
 rfl)
theorem zlo (c:Nat) (fs:List Rat) (h:∀ f ∈ fs,Len f c):∀ k,k≤fs.length→Len (zcs (fs.take k)) (k*(c+1)+1)
 | 0,_=>by
  rw[List.take_zero]
  exact zbq _ (by omega)
 | k+1,hk=>by
  have ih:=zlo c fs h k (by omega)
  rw[zib fs k (by omega),List.getElem?_eq_getElem (by omega)]
  exact zci ih (h _ (List.getElem_mem (by omega))) _ (by rw[Nat.succ_mul];omega)
def ni (fs:List Rat):Int:=if fs.length<1∨201<fs.length then 4 else if fs.any (fun f=>decide (f.num<0)) then 1 else if zcs fs=1 then 0 else 10
theorem zhm (v:Value) (fs:List Rat) (c:Nat) (w:World) (hv:av w v fs) (hn:fs.length≤1000) (lf:∀ f ∈ fs,Len f c) (hc:c≤100) :
   Calls prog 43 #[v] w fun e w'=>e=.returned (zfs (ni fs))∧But [] w w':=by(
 obtain⟨q,cap,rfl,hcap,-⟩:=id hv
 obtain⟨n,hN⟩:∃ n,n=fs.length:=⟨_,rfl⟩
 rw[← hN] at hn hcap ⊢
 rw[← hN] at hv
 have HV:=af hv
 have HN:=af hN
 clear hv hN
 obtain⟨ce,hce⟩:∃ ce,ce=ni fs:=⟨_,rfl⟩
 rw[← hce]
 have HCE:=af hce
 clear hce
 go_enter func43,ntmps43
 by_cases h0:n<1
 ·(
 obtain rfl:n=0:=by omega
 have e4:ce=4:=by rw[ae HCE];unfold ni;rw[if_pos (.inl (by have:=ae HN;omega))]
 subst e4
 go_wp2
 go_ret
 exact⟨rfl,But.refl _ _⟩)
 ·(
 by_cases h1:201<n
 ·(
 have e4:ce=4:=by rw[ae HCE];unfold ni;rw[if_pos (.inr (by have:=ae HN;omega))]
 subst e4
 go_wp2
 go_ret
 exact⟨rfl,But.refl _ _⟩)
 ·(
 go_wp2
 have x3:=bh.new w false 0 0 none 0 27 (zav _)
 have bV:But [] w (w.alloc (.cells #[.bool false,.int .u64 0,.int .u64 0,.pointer none] 27)):=(But.refl _ _).alloc _
 have X3:=af x3
 have BV:=af bV
 clear x3 bV
 have q3:w.heap.size≤w.heap.size:=Nat.le_refl _
 generalize hg3:w.heap.size=g3 at X3
 have Q3:Hid (w.heap.size≤g3):=by show _≤_;omega
 clear hg3 q3
 generalize w.alloc (.cells #[.bool false,.int .u64 0,.int .u64 0,.pointer none] 27)=V at *
 go_loopw [17] (fun iv wr=>∃ k:Nat,k≤n∧iv=.int .i64 (k:Int)∧Hid ((∀ f ∈ fs.take k,¬ f.num<0)∧bh wr g3 (zcs (fs.take k))∧But [] w wr)) (fun iv _=>n-(intOf iv).toNat)
 case atStart=>exact⟨0,Nat.zero_le _,rfl,fun f hf=>by simp at hf,ae X3,ae BV⟩
 case round =>(
 obtain⟨k,hk,rfl,HI⟩:=hrel
 rename World=>wr
 clear X3 BV
 by_cases hlt:k<n
 ·(
 have hkl:k<fs.length:=by have:=ae HN;omega
 have hfx:=(ae HV).but (ae HI).2.2
 rcases hfx.open with ⟨er,-⟩|⟨-,rb,roff,rcap2,er,-,-⟩
 ·rw[er] at hkl
  simp at hkl
 simp only[Value.slice.injEq] at er
 obtain⟨rfl,-,rfl⟩:=er
 obtain⟨sr,xr,yr,pr,⟨r0,r1,r2,r3⟩,hfr⟩:=hfx.get k hlt
 obtain⟨f,hff⟩:∃ f,f=fs[k]?.getD 0:=⟨_,rfl⟩
 rw[← hff] at hfr
 have hmem:f ∈ fs:=by rw[hff,List.getElem?_eq_getElem hkl];exact List.getElem_mem hkl
 have bA:But [] wr (wr.alloc (.cells #[.bool sr,.int .u64 xr,.int .u64 yr,.pointer pr] 27)):=(But.refl _ _).alloc _
 have BA:=af bA
 have x5:=bh.new wr sr xr yr pr _ 27 hfr
 have X5:=af x5
 have SG:=af (fun W (h:But [] wr W)=>sj _ f W (hfr.but h))
 have HFR:=af hfr
 have HFF:=af hff
 clear hfx hfr bA x5 hff
 by_cases hneg:f.num<0
 ·(
 have e1:ce=1:=by
  rw[ae HCE];unfold ni
  rw[if_neg (by have:=ae HN;omega),if_pos (List.any_eq_true.2 ⟨f,hmem,decide_eq_true hneg⟩)]
 subst e1
 rw[Int.sign_eq_neg_one_of_neg hneg] at SG
 go_wp2_with fail
 refine (ae SG _ (ae BA)).mono ?_
 rintro e w1 ⟨rfl,hb1⟩
 have B1:Hid (But [] w w1):=((ae HI).2.2.trans' (ae BA)).trans' hb1
 clear hb1
 go_wp2
 go_ret
 exact⟨rfl,ae B1⟩)
 ·(
 have hsg:0≤f.num.sign:=by
  rcases Int.lt_trichotomy f.num 0 with h | h | h
  ·omega
  ·rw[h];decide
  ·rw[Int.sign_eq_one_of_pos h];decide
 obtain⟨sg,hsgn⟩:∃ sg,sg=f.num.sign:=⟨_,rfl⟩
 rw[← hsgn] at SG hsg
 clear hsgn
 go_wp2_with fail
 refine (ae SG _ (ae BA)).mono ?_
 rintro e w1 ⟨rfl,hb1⟩
 have B01:=af ((ae BA).trans' hb1)
 have X51:=af ((ae X5).but hb1)
 have X31:=af ((ae HI).2.1.but (ae B01))
 have B1:=af ((ae HI).2.2.trans' (ae B01))
 have L5:g3<wr.heap.size:=(ae HI).2.1.lt
 clear hb1 SG X5 r0 r1 r2 r3
 generalize wr.heap.size=g5 at *
 obtain⟨⟨t3,a3,b3,q3,⟨c0,c1,c2,c3⟩,hf3⟩,z3⟩:=ae X31
 obtain⟨⟨t5,a5,b5,q5,⟨d0,d1,d2,d3⟩,hf5⟩,-⟩:=ae X51
 have ls:=zlo c fs lf k (by omega)
 have hkc:k*(c+1)≤1000*101:=Nat.mul_le_mul (by omega) (by omega)
 have AD:=af (l6 (xg 200000 200000 (by omega) _ _ _ _ w1 hf3 hf5 (ls.mono (by omega)) ((lf f hmem).mono (by omega))))
 clear hf3 hf5 ls hkc X51
 go_wp2_with fail
 refine (ae AD).mono ?_
 rintro e w2 ⟨s7,x7,y7,p7,rfl,hf7,hb7⟩
 have stp:=zib fs k hkl
 rw[← ae HFF] at stp
 rw[← stp] at hf7
 have l31:g3<w1.heap.size:=ai c0
 have z3':∀ j,w2.frozen? ⟨g3,j,none⟩=false:=fun j=>(hb7.frozen (p:=⟨g3,j,none⟩) l31 (by simp)).trans (z3 j)
 replace c0:=hb7.ag c0 (by simp)
 replace c1:=hb7.ag c1 (by simp)
 replace c2:=hb7.ag c2 (by simp)
 replace c3:=hb7.ag c3 (by simp)
 have D3:=af ((ae X31).but hb7)
 have B2:=af ((ae B1).trans' hb7)
 have HF7:=af hf7
 clear hf7 hb7 AD d0 d1 d2 d3 X31 B1 B01 z3 stp
 go_wp2
 have hP:=ay w2 g3 s7 x7 y7 p7
 refine⟨⟨k+1,by omega,by go_num,fun f' hf'=>?_,(ae D3).put (ae HF7),(ae B2).trans hP (fun x hx=>by simp at hx;subst hx;exact .inr (ae Q3))⟩,by simp[intOf];omega⟩
 rw[List.take_add_one,List.getElem?_eq_getElem hkl] at hf'
 rcases List.mem_append.1 hf' with h1 | h1
 ·have h2:=(ae HI).1 f' h1
  omega
 ·(
 simp at h1
 rw[h1]
 have:=ae HFF
 rw[List.getElem?_eq_getElem hkl,Option.getD_some] at this
 rw[← this]
 omega)))
 ·(
 obtain rfl:k=n:=by omega
 have hall:fs.take k=fs:=by rw[ae HN,List.take_length]
 obtain⟨hpos,⟨⟨t3,a3,b3,q3,c3,hf3⟩,z3⟩,hbw⟩:=ae HI
 rw[hall] at hpos hf3
 obtain⟨ws,wx,FW,CW⟩:=zda 1 (by omega) (by omega)
 obtain⟨r,hr⟩:∃ r,r=zbz ((zcs fs).num*((((1:Int):Rat)).den:Int)) ((((1:Int):Rat)).num*((zcs fs).den:Int)):=⟨_,rfl⟩
 have ls:=zlo c fs lf fs.length (Nat.le_refl _)
 rw[List.take_length] at ls
 have hkc:fs.length*(c+1)≤1000*101:=Nat.mul_le_mul (by have:=ae HN;omega) (by omega)
 have CM:=af (fun W (h:But [] wr W)=>zew _ _ (zcs fs) ((1:Int):Rat) W (hf3.but h) (FW W) (ls.mono (by omega)) ((zfn 1 (by decide)).mono (by omega)) r hr)
 have hr0:(r != 0)=!decide (zcs fs=1):=qcn _ _ r hr
 have HR0:=af hr0
 have HPOS:=af hpos
 have HBW:=af hbw
 have C3:=af c3
 have CWH:=af CW
 clear hall hpos hf3 z3 hbw hr ls hkc hr0 FW CW HI
 go_wp2
 refine zpy 11 _ _ wr t3 a3 b3 q3 ws wx r (by simp) g3 (by simp[Act.eval]) c3 (ae CWH) (fun w' hb=>ae CM w' hb) ?_
 intro w1 hb1
 have B1:=af ((ae HBW).trans' hb1)
 simp only[bk,List.foldl_cons,List.foldl_nil,Act.put,List.setIfInBounds_toArray,List.set_cons_zero,List.set_cons_succ]
 rw[ae HR0]
 have nn:¬ (fs.length<1∨201<fs.length):=by have:=ae HN;omega
 have nany:fs.any (fun f=>decide (f.num<0))=false:=by
  rw[List.any_eq_false]
  intro f hf
  simpa using ae HPOS f hf
 by_cases hone:zcs fs=1
 ·(
 have e1:ce=0:=by rw[ae HCE];unfold ni;rw[if_neg nn,nany];simp[hone]
 subst e1
 rw[decide_eq_true hone]
 clear c3 hb1
 go_wp2
 go_ret
 exact⟨rfl,ae B1⟩)
 ·(
 have e1:ce=10:=by rw[ae HCE];unfold ni;rw[if_neg nn,nany];simp[hone]
 subst e1
 rw[decide_eq_false hone]
 clear c3 hb1
 go_wp2
 go_ret
 exact⟨rfl,ae B1⟩))))))
theorem zcf (v:Value) (fs:List Rat) (k:Nat) (w:World) (hv:av w v fs) (_hn:fs.length≤1000) (_hk:k<1000000) :
   Calls prog 172 #[v,.int .i64 (k:Int)] w fun e w'=>∃ s x y p,e=.returned (.agg #[.bool s,.int .u64 x,.int .u64 y,.pointer p])∧au w' (.agg #[.bool s,.int .u64 x,.int .u64 y,.pointer p]) (fs[k]?.getD 0)∧But [] w w':=by(
 obtain⟨q,cap,rfl,hcap,-⟩:=id hv
 obtain⟨n,hN⟩:∃ n,n=fs.length:=⟨_,rfl⟩
 rw[← hN] at _hn hcap hv ⊢
 have HV:=af hv
 have HN:=af hN
 have bA:But [] w (w.alloc (.cells #[.bool false,.int .u64 0,.int .u64 0,.pointer none] 27)):=(But.refl _ _).alloc _
 have X4:=af (bh.new w false 0 0 none 0 27 (zav _))
 have BA:=af bA
 have Q4:Hid (w.heap.size≤w.heap.size):=Nat.le_refl _
 clear hv hN bA
 go_enter func172,ntmps172
 by_cases hlt:k<n
 ·(
 have hkl:k<fs.length:=by have:=ae HN;omega
 have hfx:=(ae HV).but (ae BA)
 rcases hfx.open with ⟨er,-⟩|⟨-,rb,roff,rcap2,er,-,-⟩
 ·rw[er] at hkl
  simp at hkl
 simp only[Value.slice.injEq] at er
 obtain⟨rfl,-,rfl⟩:=er
 obtain⟨sr,xr,yr,pr,⟨r0,r1,r2,r3⟩,hfr⟩:=hfx.get k hlt
 obtain⟨⟨t4,a4,b4,q4,⟨c0,c1,c2,c3⟩,-⟩,z4⟩:=ae X4
 have P4':Hid (P4 (w.alloc (.cells #[.bool false,.int .u64 0,.int .u64 0,.pointer none] 27)) w.heap.size t4 a4 b4 q4):=⟨c0,c1,c2,c3⟩
 have HFR:=af hfr
 generalize hU:w.alloc (.cells #[.bool false,.int .u64 0,.int .u64 0,.pointer none] 27)=U at *
 generalize hg4:w.heap.size=g4 at *
 have R4:Hid (P4o U rb (roff+k*4) sr xr yr pr):=⟨r0,r1,r2,r3⟩
 clear hfx hfr X4
 go_wp2
 try rw[hU]
 have hP:=ay U g4 sr xr yr pr
 obtain⟨m0,m1,m2,m3⟩:=zgz U g4 sr xr yr pr (ae P4')
 have hF:But [] w (mh U g4 sr xr yr pr):=(ae BA).trans hP (fun x hx=>by simp at hx;subst hx;exact .inr (by omega))
 have hff:=(ae HFR).over (ae P4').1 hP
 change bodyPost _ _ _ _ _ (mh U g4 sr xr yr pr)
 generalize mh U g4 sr xr yr pr=F at *
 exact bodyPost_ret (v:=.agg #[.bool sr,.int .u64 xr,.int .u64 yr,.pointer pr]) (by simp[results,results172,go_sem,m0,m1,m2,m3]) rfl ⟨_,_,_,_,rfl,hff,hF⟩)
 ·(
 have hz:fs[k]?.getD 0=0:=by rw[List.getElem?_eq_none (by have:=ae HN;omega)];rfl
 rw[hz]
 go_wp2
 have hc:=(ae X4).1
 exact bodyPost_ret (v:=.agg #[.bool false,.int .u64 0,.int .u64 0,.pointer none]) (by simp[results,results172,go_sem]) rfl ⟨_,_,_,_,rfl,zav _,ae BA⟩))
theorem zyz (vf vg:Value) (f g:Rat) (w:World) (hf:au w vf f) (hg:au w vg g) (lf:Len f 1000000) (lg:Len g 1000000) :
   Calls prog 173 #[vf,vg] w fun e w'=>∃ s x y p,e=.returned (.agg #[.bool s,.int .u64 x,.int .u64 y,.pointer p])∧au w' (.agg #[.bool s,.int .u64 x,.int .u64 y,.pointer p]) (xu f g)∧But [] w w':=by(
 obtain⟨r,hr⟩:∃ r,r=zbz (f.num*(g.den:Int)) (g.num*(f.den:Int)):=⟨_,rfl⟩
 have hle:r≤0↔f≤g:=by
  have h:=(zlw f g r hr).2.1
  constructor
  ·intro h1
   exact Rat.not_lt.1 (fun h2=>by have:=h.2 h2;omega)
  ·intro h1
   rcases Int.lt_or_le 0 r with h2 | h2
   ·exact absurd h1 (Rat.not_le.2 (h.1 h2))
   ·exact h2
 have CM:=af (fun W (h:But [] w W)=>zew vf vg f g W (hf.but h) (hg.but h) (lf.mono (by omega)) (lg.mono (by omega)) r hr)
 have HFA:=af hf
 have HGA:=af hg
 have HLE:=af hle
 obtain⟨x1,y1,p1,rfl,-⟩:=hf.agg
 obtain⟨x2,y2,p2,rfl,-⟩:=hg.agg
 clear hf hg lf lg hr hle
 generalize hsf:decide (f.num<0)=s1 at *
 generalize hsg:decide (g.num<0)=s2 at *
 clear hsf hsg
 obtain⟨W,hW⟩:∃ W,W=(((w.alloc (.cells #[.bool s1,.int .u64 x1,.int .u64 y1,.pointer p1] 27)).alloc (.cells #[.bool s2,.int .u64 x2,.int .u64 y2,.pointer p2] 27)).alloc (.cells #[.bool false,.int .u64 0,.int .u64 0,.pointer none] 27)):=⟨_,rfl⟩
 obtain⟨tA,tB,tC,fz,hB⟩:=zbe w W _ _ _ _ hW
 have a0:=tA 0
 have a1:=tA 1
 have a2:=tA 2
 have a3:=tA 3
 have b0:=tB 0
 have b1:=tB 1
 have b2:=tB 2
 have b3:=tB 3
 have r0:=tC 0
 have r1:=tC 1
 have r2:=tC 2
 have r3:=tC 3
 simp only[List.getElem?_toArray,List.getElem?_cons_zero,List.getElem?_cons_succ] at a0 a1 a2 a3 b0 b1 b2 b3 r0 r1 r2 r3
 clear tA tB tC
 have HW:=af hW
 have HB:=af hB
 clear hW hB
 go_enter func173,ntmps173
 go_wp2_with fail
 rw[← ae HW]
 obtain⟨ga,hga⟩:∃ ga,ga=w.heap.size:=⟨_,rfl⟩
 obtain⟨gb,hgb⟩:∃ gb,gb=w.heap.size+1:=⟨_,rfl⟩
 obtain⟨gr,hgr⟩:∃ gr,gr=w.heap.size+2:=⟨_,rfl⟩
 rw[← hga] at a0 a1 a2 a3
 rw[← hgb] at b0 b1 b2 b3
 rw[← hgr] at r0 r1 r2 r3 fz
 rw[show w.heap.size+1+1=w.heap.size+2 from rfl,← hgr,← hgb,← hga]
 have HGR:Hid (w.heap.size≤gr):=by show _≤_;omega
 clear hga hgb hgr HW
 have grl:gr<W.heap.size:=ai r0
 refine (ae CM _ (ae HB)).mono ?_
 rintro e w2 ⟨rfl,hc2⟩
 have A2:Hid (P4 w2 ga s1 x1 y1 p1):=⟨hc2.ag a0 (by simp),hc2.ag a1 (by simp),hc2.ag a2 (by simp),hc2.ag a3 (by simp)⟩
 have B2':Hid (P4 w2 gb s2 x2 y2 p2):=⟨hc2.ag b0 (by simp),hc2.ag b1 (by simp),hc2.ag b2 (by simp),hc2.ag b3 (by simp)⟩
 have R2:Hid (P4 w2 gr false 0 0 none):=⟨hc2.ag r0 (by simp),hc2.ag r1 (by simp),hc2.ag r2 (by simp),hc2.ag r3 (by simp)⟩
 have uf:∀ j,w2.frozen? ⟨gr,j,none⟩=false:=fun j=>(hc2.frozen (p:=⟨gr,j,none⟩) grl (by simp)).trans (fz j)
 have B2:=af ((ae HB).trans' hc2)
 have gl2:gr<w2.heap.size:=ai (ae R2).1
 clear hc2 a0 a1 a2 a3 b0 b1 b2 b3 r0 r1 r2 r3 fz grl CM
 obtain⟨a0,a1,a2,a3⟩:=ae A2
 obtain⟨b0,b1,b2,b3⟩:=ae B2'
 obtain⟨r0,r1,r2,r3⟩:=ae R2
 by_cases h:r≤0
 ·(
 have e:xu f g=f:=by unfold xu;rw[if_pos ((ae HLE).1 h)]
 go_wp2
 have hP:=ay w2 gr s1 x1 y1 p1
 obtain⟨m0,m1,m2,m3⟩:=zgz w2 gr s1 x1 y1 p1 (ae R2)
 have hF:But [] w (mh w2 gr s1 x1 y1 p1):=(ae B2).trans hP (fun x hx=>by simp at hx;subst hx;exact .inr (ae HGR))
 have hff:=((ae HFA).but (ae B2)).over (ae R2).1 hP
 change bodyPost _ _ _ _ _ (mh w2 gr s1 x1 y1 p1)
 generalize mh w2 gr s1 x1 y1 p1=F at *
 exact bodyPost_ret (v:=.agg #[.bool s1,.int .u64 x1,.int .u64 y1,.pointer p1]) (by simp[results,results173,go_sem,m0,m1,m2,m3]) rfl ⟨_,_,_,_,rfl,by rw[e];exact hff,hF⟩)
 ·(
 have e:xu f g=g:=by unfold xu;rw[if_neg (fun h'=>h ((ae HLE).2 h'))]
 go_wp2
 have hP:=ay w2 gr s2 x2 y2 p2
 obtain⟨m0,m1,m2,m3⟩:=zgz w2 gr s2 x2 y2 p2 (ae R2)
 have hF:But [] w (mh w2 gr s2 x2 y2 p2):=(ae B2).trans hP (fun x hx=>by simp at hx;subst hx;exact .inr (ae HGR))
 have hff:=((ae HGA).but (ae B2)).over (ae R2).1 hP
 change bodyPost _ _ _ _ _ (mh w2 gr s2 x2 y2 p2)
 generalize mh w2 gr s2 x2 y2 p2=F at *
 exact bodyPost_ret (v:=.agg #[.bool s2,.int .u64 x2,.int .u64 y2,.pointer p2]) (by simp[results,results173,go_sem,m0,m1,m2,m3]) rfl ⟨_,_,_,_,rfl,by rw[e];exact hff,hF⟩))
theorem qak (f:Rat):0<f.num.sign↔0<f:=by(
 have h1:0<f↔0<f.num:=by
  rw[← Rat.not_le,← Int.not_le,Rat.le_iff]
  simp
 rw[h1]
 rcases Int.lt_trichotomy f.num 0 with h | h | h
 ·rw[Int.sign_eq_neg_one_of_neg h];omega
 ·rw[h];decide
 ·rw[Int.sign_eq_one_of_pos h];omega)
theorem zoh (k:Int) (s1:Bool) (x1 y1:Int) (p1:Option Addr) (s2:Bool) (x2 y2:Int) (p2:Option Addr) (f:Rat) (w:World) (hf:au w (.agg #[.bool s1,.int .u64 x1,.int .u64 y1,.pointer p1]) f) :
   Calls prog 98 #[.int .i64 k,.agg #[.bool s1,.int .u64 x1,.int .u64 y1,.pointer p1],.agg #[.bool s2,.int .u64 x2,.int .u64 y2,.pointer p2]] w fun e w'=>e=.returned (.bool (decide (0<f)))∧But [] w w':=by(
 have SG:=af (fun W (h:But [] w W)=>sj _ f W (hf.but h))
 obtain⟨sg,hsg⟩:∃ sg,sg=f.num.sign:=⟨_,rfl⟩
 have e:decide (0<f)=decide (0<sg):=by
  have:=qak f
  rw[← hsg] at this
  by_cases h:0<sg
  ·rw[decide_eq_true h,decide_eq_true (this.1 h)]
  ·rw[decide_eq_false h,decide_eq_false (fun h'=>h (this.2 h'))]
 rw[e]
 rw[← hsg] at SG
 have bA:But [] w ((w.alloc (.cells #[.bool s1,.int .u64 x1,.int .u64 y1,.pointer p1] 27)).alloc (.cells #[.bool s2,.int .u64 x2,.int .u64 y2,.pointer p2] 27)):=((But.refl _ _).alloc _).alloc _
 have BA:=af bA
 clear bA hf hsg e
 go_enter func98,ntmps98
 go_wp2_with fail
 refine (ae SG _ (ae BA)).mono ?_
 rintro e w1 ⟨rfl,hb1⟩
 have B1:=af ((ae BA).trans' hb1)
 clear hb1
 go_wp2
 go_ret
 exact⟨rfl,ae B1⟩)
def jq (fs gs:List Rat):Int:=if ni fs≠0 then ni fs else ni gs
theorem zcy (va vb:Value) (fs gs:List Rat) (c:Nat) (w:World) (ha:av w va fs) (hb:av w vb gs) (hn:fs.length≤1000) (hm:gs.length≤1000) (lf:∀ f ∈ fs,Len f c) (lg:∀ f ∈ gs,Len f c) (hc:c≤100) :
   Calls prog 96 #[va,vb] w fun e w'=>e=.returned (zfs (jq fs gs))∧But [] w w':=by(
 have CA:=af (zhm va fs c w ha hn lf hc)
 have CB:=af (fun W (h:But [] w W)=>zhm vb gs c W (hb.but h) hm lg hc)
 obtain⟨q,cap,rfl,-,-⟩:=id ha
 obtain⟨q',cap',rfl,-,-⟩:=id hb
 obtain⟨be,hbe⟩:∃ be,be=jq fs gs:=⟨_,rfl⟩
 rw[← hbe]
 unfold jq at hbe
 obtain⟨ca,hca⟩:∃ ca,ca=ni fs:=⟨_,rfl⟩
 obtain⟨cb,hcb⟩:∃ cb,cb=ni gs:=⟨_,rfl⟩
 rw[← hca] at CA hbe
 rw[← hcb] at CB hbe
 have HBE:=af hbe
 clear ha hb hca hcb hbe
 go_enter func96,ntmps96
 go_wp2_with fail
 refine (ae CA).mono ?_
 rintro e w1 ⟨rfl,hb1⟩
 have B1:=af hb1
 clear hb1 CA
 by_cases h0:ca=0
 ·(
 obtain rfl:be=cb:=by rw[ae HBE,if_neg (by simpa using h0)]
 rw[h0,show zfs 0=.nilIface from rfl]
 go_wp2_with fail
 refine (ae CB _ (ae B1)).mono ?_
 rintro e w2 ⟨rfl,hb2⟩
 have B2:=af ((ae B1).trans' hb2)
 clear hb2
 obtain⟨ev,hev⟩:∃ ev,ev=zfs be:=⟨_,rfl⟩
 rw[← hev]
 have HEV:=af hev
 clear hev
 go_wp2
 go_ret
 exact⟨congrArg _ (ae HEV),ae B2⟩)
 ·(
 obtain rfl:be=ca:=by rw[ae HBE,if_pos h0]
 obtain⟨ev,hev⟩:∃ ev,ev=zfs be:=⟨_,rfl⟩
 have hev2:ev=.iface 33 (.int .i64 be):=by rw[hev];unfold zfs;rw[if_neg h0]
 rw[← hev,hev2]
 have HEV:=af (hev2.symm.trans hev)
 clear hev hev2
 go_wp2
 go_ret
 exact⟨congrArg _ (ae HEV),ae B1⟩))
theorem zhv {fs:List Rat} (h:ni fs=0):0<fs.length∧fs.length≤201∧(∀ f ∈ fs,0≤f)∧zcs fs=1:=by(
 unfold ni at h
 by_cases h1:fs.length<1∨201<fs.length
 ·rw[if_pos h1] at h;simp at h
 ·(
 rw[if_neg h1] at h
 by_cases h2:fs.any (fun f=>decide (f.num<0))=true
 ·rw[if_pos h2] at h;simp at h
 ·(
 rw[if_neg h2] at h
 by_cases h3:zcs fs=1
 ·(
 refine⟨by omega,by omega,fun f hf=>?_,h3⟩
 have h4:fs.any (fun f=>decide (f.num<0))=false:=by simpa using h2
 rw[List.any_eq_false] at h4
 have:=h4 f hf
 simp at this
 exact this)
 ·rw[if_neg h3] at h;simp at h)))
end Go.Proofs.YtagmkkiagjmimaaGreatDoor
