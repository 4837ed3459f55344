/- Division word by word, as the Go text of -/
import Derived.Laws.Append
import Derived.OwnWalk
import Derived.WalkSpells
import Derived.Test.YtagmkkiagjmimaaGreatDoorSN12
import Derived.Test.YtagmkkiagjmimaaGreatDoorSNA
namespace Go.Proofs.YtagmkkiagjmimaaGreatDoor
set_option linter.unusedVariables false
open Go.Proofs.Tryz
open Go.RowKit
set_option maxHeartbeats 8000000
set_option maxRecDepth 100000
theorem zaf.start (X Y nx n:Nat) (hx:(wd 18446744073709551616 X).length=nx) (hy:(wd 18446744073709551616 Y).length=n) (hn:0<n) (hle:n≤nx):zaf X Y nx n (wd 18446744073709551616 X++[0]) (List.replicate (nx+1-n) 0) (nx+1-n):=by(
 refine⟨by simp[hx],by simp,?_,fun x hx=>by rw[List.mem_replicate] at hx;omega,?_,by rw[mo,qg (by omega),qp,Nat.mul_zero,Nat.add_zero],fun j _=>by rw[List.getElem?_replicate];split <;> rfl⟩
 ·intro x hx
  rcases List.mem_append.1 hx with h | h
  ·exact zo (by omega) X x h
  ·simp at h;omega
 ·(
 rw[mo,qg (by omega)]
 have h1:=zdp X
 rw[hx] at h1
 have h2:18446744073709551616^(n-1)≤Y:=by
  rcases Nat.lt_or_ge Y (18446744073709551616^(n-1)) with h | h
  ·have:=aj (B:=18446744073709551616) (by omega) Y (n-1) h
   omega
  ·exact h
 have h3:18446744073709551616^nx=18446744073709551616^(n-1) * 18446744073709551616^(nx+1-n):=by rw[← Nat.pow_add];congr 1;omega
 exact Nat.lt_of_lt_of_le h1 (by rw[h3];exact Nat.mul_le_mul_right _ h2)))
theorem zqh (wx:World) (nx n:Nat) (h:nx<1073741824) (hn:n≤nx):(Instr.makeSlice 102 (.int .i64 ((nx:Int)-(n:Int)+1)) (.int .i64 ((nx:Int)-(n:Int)+1))).run prog wx=.ok (.slice (some ⟨wx.heap.size,0,none⟩) (nx+1-n) (nx+1-n)) (wx.alloc (.cells (madeCells #[.int .u64 0] (nx+1-n)) 24)):=by(
 have:=xq wx (nx+1-n) (by omega)
 rw[show ((nx+1-n:Nat):Int)=(nx:Int)-(n:Int)+1 from by omega] at this
 exact this)
theorem zib (g o cap l i n:Nat) (hi:i<cap) (hn:i+n≤cap) (hc:cap<1073741824) (W:World):(Instr.slice 102 (.slice (some ⟨g,o,none⟩) l cap) (some (.int .i64 (i:Int))) (some (.int .i64 ((i:Int)+(n:Int)))) none).run prog W=.ok (.slice (some ⟨g,o+i,none⟩) n (cap-i)) W:=by(
 have h1:(0:Int)≤(i:Int):=by omega
 have h2:(i:Int)≤(i:Int)+(n:Int):=by omega
 have h3:(i:Int)+(n:Int)≤(cap:Int):=by omega
 have h4:(i:Int)<(cap:Int):=by omega
 have hu:=underlying102
 go_simp
 exact⟨by omega,by omega⟩)
theorem zls (g o cap l i n:Nat) (hi:i<cap) (hn:i+n≤cap) (hc:cap<1073741824) (W:World):(Instr.sliceAt 102 (.slice (some ⟨g,o,none⟩) l cap) (some (.int .i64 (i:Int))) (some (.int .i64 ((i:Int)+(n:Int)))) none).run prog W=.ok (.slice (some ⟨g,o+i,none⟩) n (cap-i)) W:=by(
 rw[run_sliceAt_slice]
 ·exact zib g o cap l i n hi hn hc W
 ·kernel_rfl)
theorem zho (vx vy:Value) (X Y:Nat) (w:World) (hx:Sl .u64 w vx (wd 18446744073709551616 X)) (hy:Sl .u64 w vy (wd 18446744073709551616 Y)) (h2:2≤(wd 18446744073709551616 Y).length) (hle:(wd 18446744073709551616 Y).length≤(wd 18446744073709551616 X).length) (hl:(wd 18446744073709551616 X).length<268435456) :
   Calls prog 252 #[vx,vy] w fun e w'=>∃ v1 v2,e=.returned (.tuple #[v1,v2])∧Sl .u64 w' v1 (wd 18446744073709551616 (X/Y))∧Sl .u64 w' v2 (wd 18446744073709551616 (X%Y))∧But [] w w'∧Own w.heap.size w' v2∧mi w.heap.size v1:=by(
 obtain⟨a1,c1,rfl,hc1,-⟩:=id hx
 rcases hy.open with ⟨e,-⟩|⟨-,b2,o2,c2,rfl,hc2,hb2,-⟩
 ·rw[e] at h2;simp at h2
 have hYp:=zdp Y
 have MY:=af (zo (B:=18446744073709551616) (by omega) Y)
 have VY:=af (qg (B:=18446744073709551616) (by omega) Y)
 obtain⟨w2,hcp,HC⟩:=je (P:=prog) (w.alloc (.cells (madeCells #[.int .u64 0] ((wd 18446744073709551616 X).length+1)) 24)) 102 103 24 underlying102 fw w.heap.size 0 ((wd 18446744073709551616 X).length+1) ((wd 18446744073709551616 X).length+1) _ (List.replicate ((wd 18446744073709551616 X).length+1) 0) (wd 18446744073709551616 X) (Seg.made _ _ _) (by simp) (hx.ah (xh _ _ _)) (by simp)
 have e1:wd 18446744073709551616 X++(List.replicate ((wd 18446744073709551616 X).length+1) 0).drop (wd 18446744073709551616 X).length=wd 18446744073709551616 X++[0]:=by rw[List.drop_replicate,show (wd 18446744073709551616 X).length+1-(wd 18446744073709551616 X).length=1 from by omega];rfl
 rw[e1] at HC
 have hst:=zaf.start X Y (wd 18446744073709551616 X).length (wd 18446744073709551616 Y).length rfl rfl (by omega) hle
 have hB2:But [] w w2:=((xh w ((wd 18446744073709551616 X).length+1) 24).trans (ae HC).2.but (fun x hx=>by simp at hx;subst hx;exact .inr (Nat.le_refl _)))
 have hg:w.heap.size<w2.heap.size:=Nat.lt_of_lt_of_le (by simp) (ae HC).2.but.size
 have hmk1:=fun wx=>zdv wx (wd 18446744073709551616 X).length (by omega)
 have hmk2:=fun wx=>zqh wx (wd 18446744073709551616 X).length (wd 18446744073709551616 Y).length (by omega) hle
 have hyo:Off w.heap.size (.slice (some ⟨b2,o2,none⟩) (wd 18446744073709551616 Y).length c2):=fun b off n c e=>by
  simp only[Value.slice.injEq,Option.some.injEq,Addr.mk.injEq] at e
  obtain⟨⟨rfl,-⟩,-⟩:=e
  omega
 have hs0:=(ae HC).1
 generalize hxs:wd 18446744073709551616 X++[0]=r0 at *
 clear hxs e1
 have HY:=af hy
 have HYO:=af hyo
 have A0:=af (And.intro hst (And.intro hB2 hs0))
 have HYP:=af hYp
 clear hx hy HC hst hs0 hyo hYp
 generalize hnx:(wd 18446744073709551616 X).length=nx at *
 generalize hys:wd 18446744073709551616 Y=ys at *
 generalize hn:ys.length=n at *
 have HN:=af hn
 clear hnx hys hn
 have A1:Hid (zaf X Y nx n r0 (List.replicate (nx+1-n) 0) (nx+1-n)∧But [] w (w2.alloc (.cells (madeCells #[.int .u64 0] (nx+1-n)) 24))∧Seg (w2.alloc (.cells (madeCells #[.int .u64 0] (nx+1-n)) 24)) w.heap.size 0 r0∧Seg (w2.alloc (.cells (madeCells #[.int .u64 0] (nx+1-n)) 24)) w2.heap.size 0 (List.replicate (nx+1-n) 0)) :=
  ⟨(ae A0).1,hB2.alloc _,(ae A0).2.2.but (l:=[]) ((But.refl _ _).alloc _) (by simp),Seg.made _ _ _⟩
 have HG:=af hg
 clear A0 hB2 hg hb2
 go_enter func252,ntmps252
 go_wp2
 go_loopw [9] (fun i wr=>∃ (k:Nat) (rs qs:List Nat),k≤nx+1-n∧i=.int .i64 ((k:Int)-1)∧rs.length=nx+1∧qs.length=nx+1-n∧Hid (zaf X Y nx n rs qs k∧But [] w wr∧Seg wr w.heap.size 0 rs∧Seg wr w2.heap.size 0 qs)) (fun i _=>(intOf i+1).toNat)
 case atStart=>exact⟨nx+1-n,r0,List.replicate (nx+1-n) 0,Nat.le_refl _,by go_num,(ae A1).1.lr,by simp,A1⟩
 case round =>(
 clear A1
 obtain⟨k,rs,qs,hk,rfl,hlr,hlq,HI⟩:=hrel
 rename World=>wr
 by_cases hk0:k=0
 ·(
 subst hk0
 obtain⟨hI,hB,hsr,hsq⟩:=ae HI
 have sq:=hsq.sl (nx+1-n) (by omega)
 have sr:=hsr.sl (nx+1) (by omega)
 rw[hlq] at sq
 rw[hlr] at sr
 have HSQ:=af sq
 have HSR:=af sr
 have HF:=af hI.fin
 have hlq2:qs.length<2147483648:=by omega
 have hlr2:rs.length<2147483648:=by omega
 clear sq sr hI hB hsr hsq HY
 go_wp2_with fail
 refine (zz _ qs _ (ae HSQ) (ae HI).1.mq hlq2).mono ?_
 rintro e w3 ⟨v1,rfl,hv1,hw,hsb1⟩
 obtain rfl:=hw.symm
 clear hw
 have hfr:=yh hsb1 (Nat.le_of_lt (ae HG))
 rw[(ae HF).1] at hv1
 have HV1:=af hv1
 have HFR:=af hfr
 clear hv1 hsb1 hfr
 go_wp2_with fail
 refine (zz _ rs _ (ae HSR) (ae HI).1.mr hlr2).mono ?_
 rintro e w3 ⟨v2,rfl,hv2,hw,hsb2⟩
 obtain rfl:=hw.symm
 clear hw
 have hown:=zoo (lo:=w.heap.size) (ae HI).2.2.1 hsb2 hv2 (aj (B:=18446744073709551616) (by omega) (vl 18446744073709551616 rs) rs.length (fe (by omega) rs (ae HI).1.mr)) (Nat.le_refl _)
 rw[(ae HF).2] at hv2
 have HV2:=af hv2
 have HOW:=af hown
 clear hv2 hsb2 hown
 go_wp2
 go_ret2
 exact⟨v1,v2,rfl,ae HV1,ae HV2,(ae HI).2.1,ae HOW,ae HFR⟩)
 ·(
 obtain⟨i,rfl⟩:∃ i,k=i+1:=⟨k-1,by omega⟩
 have hin:i+n<rs.length:=by omega
 obtain⟨hw1,hw2,hw3⟩:=(ae HI).1.win (ae HYP) hin
 have hsub:=(ae HI).2.2.1.sub i (n+1) (by omega)
 have lsub:((rs.drop i).take (n+1)).length=n+1:=by rw[List.length_take,List.length_drop];omega
 have hsl:=hsub.sl (nx+1-i) (by rw[lsub];omega)
 rw[lsub,Nat.zero_add] at hsl
 obtain⟨m,hm⟩:∃ m,n=m+2:=⟨n-2,by omega⟩
 have HGS:=af (zrx _ _ _ _ m wr hsl ((ae HY).ah (ae HI).2.1) (by rw[lsub,hm]) (by rw[ae HN,hm]) (fun x hx=>(ae HI).1.mr x (List.mem_of_mem_drop (List.mem_of_mem_take hx))) (ae MY) (by rw[hw1,ae VY];exact hw2) (by omega))
 rw[hw1,ae VY] at HGS
 have hsv:=(ae HI).2.2.1.sub i n (by omega)
 have lsv:((rs.drop i).take n).length=n:=by rw[List.length_take,List.length_drop];omega
 rw[Nat.zero_add] at hsv
 have msv:∀ x ∈ (rs.drop i).take n,x < 18446744073709551616:=fun x hx=>(ae HI).1.mr x (List.mem_of_mem_drop (List.mem_of_mem_take hx))
 obtain⟨ct,ft⟩:=(ae HI).2.2.1 (i+n) hin
 rw[Nat.zero_add] at ct ft
 have htB:rs[i+n]?.getD 0 < 18446744073709551616:=bt (ae HI).1.mr (by omega) _
 have ST:=af (fun vs q h1 h2 h3 h4 h5=>(ae HI).1.step (ae HYP) hin (by omega) vs q h1 h2 h3 h4 h5)
 have hyW:=(ae HY).ah (ae HI).2.1
 have HSU:=af (fun (W:World) (q:Nat) (hq:q < 18446744073709551616) (hS:Seg W w.heap.size i ((rs.drop i).take n)) (hyS:Sl .u64 W (.slice (some ⟨b2,o2,none⟩) n c2) ys)=>zoa w.heap.size i (nx+1-i) ((rs.drop i).take n) ys (.slice (some ⟨b2,o2,none⟩) n c2) q W hS (by rw[lsv];omega) hyS (fun _=>ae HYO) msv (ae MY) hq (by rw[lsv,ae HN]) (by rw[lsv];omega))
 rw[lsv,ae VY] at HSU
 have MST:=af (fun vs q c=>zhy.start (vl 18446744073709551616 (rs.drop i)) Y n (rs[i+n]?.getD 0) ((rs.drop i).take n) vs q c (ae HYP) hw3)
 have FT:=af ft
 clear ft
 obtain⟨cq,fq⟩:=(ae HI).2.2.2 i (by omega)
 rw[Nat.zero_add] at cq fq
 have CQ:=af cq
 have FQ:=af fq
 clear cq fq
 have HSV:=af hsv
 have HYW:=af hyW
 have HWH:=af (fun (W1:World) (vs:List Nat) (hp:Part w.heap.size i n wr W1) (hsg:Seg W1 w.heap.size i vs) (hl:vs.length=n)=>(ae HI).2.2.1.whole hp hsg hl (by omega))
 clear hw1 hw2 hw3 hsub lsub hsl hsv lsv msv hyW hm
 generalize rs[i+n]?.getD 0=t at *
 generalize vl 18446744073709551616 (rs.drop i)=D at *
 rw[show (((i+1:Nat):Int)-1)=(i:Int) from by omega]
 go_wp2_with fail
 rw[show i+n+1-i=n+1 from by omega]
 refine (ae HGS).mono ?_
 rintro e w3 ⟨q,rfl,hq,hDq,dn,hw⟩
 obtain⟨W,hW⟩:∃ W,W=w3:=⟨_,rfl⟩
 have hct:W.cell? ⟨w.heap.size,i+n,none⟩=some (.int .u64 (t:Int)):=by rw[hW,hw];exact ct
 have HPW:Hid (Part w.heap.size i n wr W):=by show Part _ _ _ _ _;rw[hW,hw];exact (Part.refl _ _ _ _).drewN dn
 have HSW:Hid (Seg W w.heap.size i ((rs.drop i).take n)):=by show Seg _ _ _ _;rw[hW,hw];exact ae HSV
 have HYW2:Hid (Sl .u64 W (.slice (some ⟨b2,o2,none⟩) n c2) ys):=by show Sl _ _ _ _;rw[hW,hw];exact ae HYW
 rw[← hW]
 clear hW hw HGS HSV HYW
 have HDQ:=af hDq
 have CT:=af ct
 clear hDq ct
 have hsl1:=fun W=>zib w.heap.size 0 (nx+1) (nx+1) i n (by omega) (by omega) (by omega) W
 have hsl2:=fun W=>zls w.heap.size 0 (nx+1) (nx+1) i n (by omega) (by omega) (by omega) W
 rw[Nat.zero_add] at hsl1 hsl2
 have hwr:IntKind.i64.wrap ((i:Int)+(n:Int))=(i:Int)+(n:Int):=by rw[IntKind.wrap_i64];omega
 have htn:((i:Int)+(n:Int)).toNat=i+n:=by omega
 have i2:(i:Int)+(n:Int)<(nx:Int)+1:=by omega
 have i6:(0:Int)≤(i:Int)+(n:Int):=by omega
 go_wp2
 go_region_held (fun w'=>w'.cell? ⟨w.heap.size,i+n,none⟩=some (.int .u64 (t:Int))) (go_keep) (first
  | (go_at_call 265;refine (ae HSU _ q hq (by exact ae HSW) (by exact ae HYW2)).mono ?_;rintro e w4 ⟨c,vs,rfl,hcB,hlv,hmv,hvv,hsg,hpt⟩;have k4:=(hpt.cell (i+n) (.inr (Nat.le_refl _))).trans hct))
 obtain⟨htc,hme⟩:=ae MST vs q c hlv hmv hq hcB hvv (ae HDQ)
 have eM:IntKind.u64.wrap ((c:Int)-(t:Int))=((c-t:Nat):Int):=by rw[IntKind.wrap_u64];omega
 rw[eM]
 have hMB:c-t < 18446744073709551616:=by omega
 have A2:Hid (zhy D Y n vs q (c-t)∧Part w.heap.size i n wr w4∧Seg w4 w.heap.size i vs):=⟨hme,(ae HPW).trans (by first | exact hpt | exact ((Part.refl _ _ _ _).drewN 1).trans hpt),hsg⟩
 clear hme eM htc hvv hpt hsg HPW HSW HYW2 HDQ hmv k4 hct HSU MST htB
 generalize c-t=M at *
 clear hcB
 go_wp2
 go_loopw [10,11] (fun a b wq=>∃ (q M:Nat) (vs:List Nat),a=.int .u64 q∧b=.int .u64 M∧q < 18446744073709551616∧M < 18446744073709551616∧vs.length=n∧Hid (zhy D Y n vs q M∧Part w.heap.size i n wr wq∧Seg wq w.heap.size i vs)) (fun a _ _=>(intOf a).toNat)
 case atStart=>exact⟨q,M,vs,rfl,rfl,hq,hMB,hlv,A2⟩
 case round =>(
 clear A2 hq hMB hlv
 obtain⟨q,M,vs,rfl,rfl,hq,hMB,hlv,HJ⟩:=hrel
 rename World=>wq
 by_cases hM0:M=0
 ·(
 subst hM0
 have hfin:=(ae HJ).1.fin
 have hdiv:=ae ST vs q hlv (ae HJ).1.mem hq hfin.1 hfin.2
 have hwh:=ae HWH wq vs (ae HJ).2.1 (ae HJ).2.2 hlv
 have ct:=((ae HJ).2.1.cell (i+n) (.inr (Nat.le_refl _))).trans (ae CT)
 have ft:=((ae HJ).2.1.frozen (i+n)).trans (ae FT)
 have hgg:w2.heap.size≠w.heap.size:=by have:=ae HG;omega
 have cq:=(ae HJ).2.1.but.ag (ae CQ) (by simpa using hgg)
 have fq:=((ae HJ).2.1.but.frozen (p:=⟨w2.heap.size,i,none⟩) (ai (ae CQ)) (by simpa using hgg)).trans (ae FQ)
 have hsq:=(ae HI).2.2.2.but (ae HJ).2.1.but (by simpa using hgg)
 have hBq:But [] w wq:=(ae HI).2.1.trans (ae HJ).2.1.but (fun x hx=>by simp at hx;subst hx;exact .inr (Nat.le_refl _))
 have lrs:i+n<(rs.take i++vs++rs.drop (i+n)).length:=by have:=hdiv.lr;rw[List.length_set] at this;omega
 have s1:=hwh.set (i+n) lrs 0
 rw[Nat.zero_add] at s1
 have b1:But [w.heap.size] wq (wq.setCell ⟨w.heap.size,i+n,none⟩ (.int .u64 ((0:Nat):Int))):=(But.refl _ _).setCell (by simp) _
 have s2:=hsq.but b1 (by simpa using hgg)
 have s3:=s2.set i (by omega) q
 rw[Nat.zero_add] at s3
 have b2:But [w2.heap.size] (wq.setCell ⟨w.heap.size,i+n,none⟩ (.int .u64 ((0:Nat):Int))) ((wq.setCell ⟨w.heap.size,i+n,none⟩ (.int .u64 ((0:Nat):Int))).setCell ⟨w2.heap.size,i,none⟩ (.int .u64 (q:Int))):=(But.refl _ _).setCell (by simp) _
 have s4:=s1.but b2 (by simpa using hgg.symm)
 have b3:=(hBq.setCell (p:=⟨w.heap.size,i+n,none⟩) (.inr (Nat.le_refl _)) (.int .u64 ((0:Nat):Int))).setCell (p:=⟨w2.heap.size,i,none⟩) (.inr (Nat.le_of_lt (ae HG))) (.int .u64 (q:Int))
 have ALL:=af (And.intro hdiv (And.intro b3 (And.intro s4 s3)))
 have hl1:Hid (((rs.take i++vs++rs.drop (i+n)).set (i+n) 0).length=nx+1∧(qs.set i q).length=nx+1-n):=⟨hdiv.lr,hdiv.lq⟩
 have cq2:(wq.setCell ⟨w.heap.size,i+n,none⟩ (.int .u64 0)).cell? ⟨w2.heap.size,i,none⟩=some (.int .u64 (qs[i]?.getD 0:Nat)):=(World.cell?_setCell_other _ _ _ _ (fun e=>hgg (Addr.mk.inj e).1.symm)).trans cq
 clear hdiv b1 b2 b3 s1 s2 s3 s4 hBq hsq hwh hfin lrs
 generalize qs[i]?.getD 0=q0 at *
 have iq:(i:Int)<((nx+1-n:Nat):Int):=by omega
 go_wp2
 refine⟨⟨i,(rs.take i++vs++rs.drop (i+n)).set (i+n) 0,qs.set i q,by omega,rfl,(ae hl1).1,(ae hl1).2,ae ALL⟩,?_⟩
 simp[intOf])
 ·(
 have hM1:1≤M:=by omega
 have hMz:((M:Int) != 0)=true:=by simp;omega
 have hq1:1≤q:=((ae HJ).1.pos (by omega)).1
 have STP:Hid (∀ (vs':List Nat) (k:Nat),k≤1→vs'.length=n→(∀ x ∈ vs',x < 18446744073709551616)→vl 18446744073709551616 vs' + k * 18446744073709551616^n=vl 18446744073709551616 vs+Y→zhy D Y n vs' (q-1) (M-k)):=by
  intro vs' k h1 h2 h3 h4
  have hJ:=(ae HJ).1
  obtain⟨q',rfl⟩:∃ q',q=q' + 1:=⟨q-1,by omega⟩
  obtain⟨M',rfl⟩:∃ M',M=M' + 1:=⟨M-1,by omega⟩
  exact hJ.step vs' k h1 h2 h3 h4
 have hBq:But [] w wq:=(ae HI).2.1.trans (ae HJ).2.1.but (fun x hx=>by simp at hx;subst hx;exact .inr (Nat.le_refl _))
 have hAT:=zhx w.heap.size i (nx+1-i) vs ys (.slice (some ⟨b2,o2,none⟩) n c2) wq (ae HJ).2.2 (by omega) ((ae HY).ah hBq) (fun _=>ae HYO) (ae HJ).1.mem (ae MY) (by rw[ae HN];omega) (by omega)
 rw[hlv,ae VY] at hAT
 have HAT:=af hAT
 clear hAT hBq
 go_wp2_with fail
 refine (ae HAT).mono ?_
 rintro e w5 ⟨k,vs',rfl,hk1,hl5,hm5,hv5,hs5,hp5⟩
 have HN5:=af (And.intro (ae STP vs' k hk1 hl5 hm5 hv5) (And.intro ((ae HJ).2.1.trans hp5) hs5))
 have hkM:k≤M:=by omega
 clear STP HAT hv5 hs5 hp5 hm5 HJ
 go_wp2
 go_roundw
 case rel=>exact⟨q-1,M-k,vs',congrArg (Value.int IntKind.u64) (by omega),congrArg (Value.int IntKind.u64) (by omega),by omega,by omega,hl5,HN5⟩
 case measure=>simp[intOf];omega)))))
theorem zbb (m n:Nat):(m<n∧zq m n=-1)∨(m=n∧zq m n=0)∨(n<m∧zq m n=1):=by(
 rcases Nat.lt_trichotomy m n with h | h | h
 ·exact .inl ⟨h,by simp[zq,h]⟩
 ·exact .inr (.inl ⟨h,by simp[zq,h]⟩)
 ·exact .inr (.inr ⟨h,by simp only[zq];rw[if_neg (by omega),if_neg (by omega)]⟩))
theorem o8 {m n:Nat} (h:m<n):zq m n=-1:=by simp[zq,h]
theorem zan {m n:Nat} (h:n≤m):0≤zq m n:=by
 rcases zbb m n with ⟨h1,-⟩|⟨-,h1⟩|⟨-,h1⟩ <;> omega
def qex (X Y:Nat):Prop:=∀ (vx vy:Value) (w:World),Sl .u64 w vx (wd 18446744073709551616 X)→Sl .u64 w vy (wd 18446744073709551616 Y) →
 Calls prog 224 #[vx,vy] w fun e w'=>∃ v1 v2,e=.returned (.tuple #[v1,v2])∧Sl .u64 w' v1 (wd 18446744073709551616 (X/Y))∧Sl .u64 w' v2 (wd 18446744073709551616 (X%Y))∧But [] w w'∧(Y≤X→Own w.heap.size w' v2)
theorem zpd (X Y:Nat) (h2:2≤(wd 18446744073709551616 Y).length) (hle:Y≤X) (hl:(wd 18446744073709551616 X).length<268435456) (hs:(wd 18446744073709551616 X).length<(wd 18446744073709551616 Y).length+80∨(wd 18446744073709551616 Y).length<80):qex X Y:=by(
 intro vx vy w hx hy
 have hlen:=au hle
 have hcmp:=xu vx vy X Y w hx hy (by omega) (by omega)
 have hc0:=zan hle
 generalize zq X Y=r at *
 have HC:=af hcmp
 have LD:=af (fun (W:World) (h1:Sl .u64 W vx (wd 18446744073709551616 X)) (h3:Sl .u64 W vy (wd 18446744073709551616 Y))=>zho vx vy X Y W h1 h3 h2 hlen hl)
 have HX:=af hx
 have HY:=af hy
 obtain⟨a1,c1,rfl,-,-⟩:=hx
 obtain⟨a2,c2,rfl,-,-⟩:=hy
 clear hcmp
 generalize (wd 18446744073709551616 X).length=nx at *
 generalize (wd 18446744073709551616 Y).length=ny at *
 have hr:decide (r<0)=false:=by simp;omega
 by_cases hm:nx<ny+80
 ·(
 go_enter func224,ntmps224
 go_wp2_with fail
 refine (ae HC).mono ?_
 rintro e w1 ⟨rfl,q,rfl⟩
 go_wp2_with fail
 refine (ae LD _ (by exact ae HX) (by exact ae HY)).mono ?_
 rintro e w2 ⟨v1,v2,rfl,h1,h3,h4,h5,h6⟩
 have ALL:=af (And.intro h1 (And.intro h3 (And.intro (((But.refl [] _).drewN q).trans' h4) h5)))
 clear h1 h3 h4 h5 h6 LD HC
 go_wp2
 go_ret2
 exact⟨v1,v2,rfl,(ae ALL).1,(ae ALL).2.1,(ae ALL).2.2.1,fun _=>(ae ALL).2.2.2⟩)
 ·(
 have hs2:ny<80:=by omega
 clear hs
 go_enter func224,ntmps224
 go_wp2_with fail
 refine (ae HC).mono ?_
 rintro e w1 ⟨rfl,q,rfl⟩
 go_wp2_with fail
 refine (ae LD _ (by exact ae HX) (by exact ae HY)).mono ?_
 rintro e w2 ⟨v1,v2,rfl,h1,h3,h4,h5,h6⟩
 have ALL:=af (And.intro h1 (And.intro h3 (And.intro (((But.refl [] _).drewN q).trans' h4) h5)))
 clear h1 h3 h4 h5 h6 LD HC
 go_wp2
 go_ret2
 exact⟨v1,v2,rfl,(ae ALL).1,(ae ALL).2.1,(ae ALL).2.2.1,fun _=>(ae ALL).2.2.2⟩))
def zw (Y:Nat):Nat:=(wd 18446744073709551616 Y)[(wd 18446744073709551616 Y).length-1]?.getD 0
theorem zeo (Y:Nat) (h:0<Y):0<zw Y∧zw Y < 18446744073709551616∧Y<(zw Y+1) * 18446744073709551616^((wd 18446744073709551616 Y).length-1)∧zw Y * 18446744073709551616^((wd 18446744073709551616 Y).length-1)≤Y:=by(
 have hl:0<(wd 18446744073709551616 Y).length:=by rw[Nat.pos_iff_ne_zero];intro e;rw[ze (by omega)] at e;omega
 obtain⟨m,hm⟩:∃ m,(wd 18446744073709551616 Y).length=m+1:=⟨(wd 18446744073709551616 Y).length-1,by omega⟩
 have e1:=wu (wd 18446744073709551616 Y) m (by omega)
 rw[drop_one _ m hm,zsy,qg (by omega)] at e1
 have e2:=ru (wd 18446744073709551616 Y) m (by omega) (zo (by omega) Y)
 have e3:=bt (zo (B:=18446744073709551616) (by omega) Y) (by omega:0 < 18446744073709551616) m
 unfold zw
 rw[hm,Nat.add_sub_cancel]
 generalize (wd 18446744073709551616 Y)[m]?.getD 0=t at *
 have ht:0<t:=by
  rcases Nat.eq_zero_or_pos t with h0 | h0
  ·subst h0
   have:=aj (B:=18446744073709551616) (by omega) Y m (by omega)
   omega
  ·exact h0
 rw[Nat.mul_comm] at e1
 refine⟨ht,e3,?_,by omega⟩
 rw[Nat.add_mul,Nat.one_mul];omega)
theorem zrj (Y:Nat) (h:0<Y):(wd 18446744073709551616 (Y*2^lz (zw Y))).length=(wd 18446744073709551616 Y).length:=by(
 obtain⟨h1,h2,h3,h4⟩:=zeo Y h
 obtain⟨l1,l2,l3,-⟩:=u6 (zw Y) h1 h2
 have hl:0<(wd 18446744073709551616 Y).length:=by rw[Nat.pos_iff_ne_zero];intro e;rw[ze (by omega)] at e;omega
 have hp:18446744073709551616=2^(64-lz (zw Y))*2^lz (zw Y):=by rw[← Nat.pow_add,show (64-lz (zw Y))+lz (zw Y)=64 from by omega]
 have h5:(zw Y+1)*2^lz (zw Y)≤18446744073709551616:=by
  rw[hp] at l2 ⊢
  exact Nat.mul_le_mul_right _ (Nat.lt_of_mul_lt_mul_right l2)
 refine Nat.le_antisymm (aj (by omega) _ _ ?_) (au (Nat.le_mul_of_pos_right _ (Nat.pow_pos (by omega))))
 have h6:Y*2^lz (zw Y)<(zw Y+1) * 18446744073709551616^((wd 18446744073709551616 Y).length-1)*2^lz (zw Y):=Nat.mul_lt_mul_of_pos_right h3 (Nat.pow_pos (by omega))
 have h7:(zw Y+1) * 18446744073709551616^((wd 18446744073709551616 Y).length-1)*2^lz (zw Y)≤18446744073709551616 * 18446744073709551616^((wd 18446744073709551616 Y).length-1):=by
  rw[Nat.mul_right_comm];exact Nat.mul_le_mul_right _ h5
 have h8:18446744073709551616 * 18446744073709551616^((wd 18446744073709551616 Y).length-1)=18446744073709551616^(wd 18446744073709551616 Y).length:=by rw[Nat.mul_comm,← Nat.pow_succ];congr 1;omega
 omega)
theorem zoe (X s:Nat) (hs:s≤63):(wd 18446744073709551616 (X*2^s)).length≤(wd 18446744073709551616 X).length+1:=by(
 refine aj (by omega) _ _ ?_
 rw[Nat.pow_succ]
 have h1:=zdp X
 have h2:2^s≤18446744073709551616:=by
  have:2^s≤2^64:=Nat.pow_le_pow_right (by omega) (by omega)
  omega
 exact Nat.lt_of_lt_of_le (Nat.mul_lt_mul_of_pos_right h1 (Nat.pow_pos (by omega))) (Nat.mul_le_mul_left _ h2))
def zlj (g:Nat) (w:World) (v:Value):Prop:=∀ b off n c,v=.slice (some ⟨b,off,none⟩) n c→b=g∧∀ i,i<n→w.frozen? ⟨b,off+i,none⟩=false
theorem zop {w:World} {g o n c:Nat} {rs ys:List Nat} {v:Value} (hs:Seg w g o rs) (hb:zbc (.slice (some ⟨g,o,none⟩) n c) v) (hv:Sl .u64 w v ys) (hl:ys.length≤rs.length):zlj g w v:=fun b off m c' e=>by
 obtain⟨n',c'',e'⟩:=hb b off m c' e
 simp only[Value.slice.injEq,Option.some.injEq,Addr.mk.injEq] at e'
 obtain⟨⟨rfl,rfl,-⟩,-,-⟩:=e'
 obtain⟨a,cap,e2,-,-⟩:=hv
 rw[e] at e2
 simp only[Value.slice.injEq] at e2
 obtain⟨-,rfl,-⟩:=e2
 exact⟨rfl,fun i hi=>(hs i (by omega)).2⟩
theorem zen (rs:List Nat) (hm:∀ x ∈ rs,x < 18446744073709551616):(wd 18446744073709551616 (vl 18446744073709551616 rs)).length≤rs.length:=aj (by omega) _ _ (fe (by omega) rs hm)
theorem zxg (g1 o1 cx g2 o2 cy nx n:Nat) (ps qs:List Nat) (w:World) (xx xy yx yy:Nat) (hxx:xx < 18446744073709551616) (hxy:xy < 18446744073709551616) (hyx:yx < 18446744073709551616) (hyy:yy < 18446744073709551616) (hne:g1≠g2) (hP:Seg w g1 o1 ps) (hQ:Seg w g2 o2 qs) (hlp:ps.length=n) (hlq:qs.length=n) (hn0:0<n) (hnx:n≤nx) (hcx:nx≤cx) (hcy:n≤cy) (hl:nx<1073741824) (mp:∀ x ∈ ps,x < 18446744073709551616) (mq:∀ x ∈ qs,x < 18446744073709551616) (X' Y':Nat)
   (hfin:Hid (∀ ps' qs' u d l r b o,xk ps qs ps' qs' xx xy yx yy n u d l r b o→vl 18446744073709551616 ps'=X'∧vl 18446744073709551616 qs'=Y')) :
   Calls prog 240 #[.agg #[.int .u64 (xx:Int),.int .u64 (xy:Int),.int .u64 (yx:Int),.int .u64 (yy:Int),.bool false],.slice (some ⟨g1,o1,none⟩) nx cx,.slice (some ⟨g2,o2,none⟩) n cy] w fun e w'=>∃ v1 v2,e=.returned (.tuple #[v1,v2])∧Sl .u64 w' v1 (wd 18446744073709551616 X')∧Sl .u64 w' v2 (wd 18446744073709551616 Y')∧But [g1,g2] w w'∧zlj g1 w' v1∧zlj g2 w' v2:=by(
 have hb1:g1<w.heap.size:=hP.lt (by omega)
 have hb2:g2<w.heap.size:=hQ.lt (by omega)
 have I0:Hid (xk ps qs ps qs xx xy yx yy 0 0 0 0 0 0 0):=xk.start ps qs xx xy yx yy mp mq
 have HP:=af hP
 have HQ:=af hQ
 have MP:=af mp
 have MQ:=af mq
 clear hP hQ mp mq
 have hnI:(n:Int)≤(cx:Int):=by omega
 go_enter func240,ntmps240
 go_wp2
 obtain⟨W,hW⟩:∃ W,W=w.alloc (.cells #[.int .u64 (xx:Int),.int .u64 (xy:Int),.int .u64 (yx:Int),.int .u64 (yy:Int),.bool false] 276):=⟨_,rfl⟩
 have HBW:Hid (But [] w W):=by show But _ _ _;rw[hW];exact (But.refl _ _).alloc _
 have z0:W.cell? ⟨w.heap.size,0,none⟩=some (.int .u64 (xx:Int)):=by rw[hW];simp
 have z1:W.cell? ⟨w.heap.size,1,none⟩=some (.int .u64 (xy:Int)):=by rw[hW];simp
 have z2:W.cell? ⟨w.heap.size,2,none⟩=some (.int .u64 (yx:Int)):=by rw[hW];simp
 have z3:W.cell? ⟨w.heap.size,3,none⟩=some (.int .u64 (yy:Int)):=by rw[hW];simp
 rw[← hW]
 clear hW
 have hzp:w.heap.size≠g1:=by omega
 have hzq:w.heap.size≠g2:=by omega
 have hpq:g1≠g2:=by omega
 have SP:=af ((ae HP).but (l:=[]) (ae HBW) (by simp))
 have SQ:=af ((ae HQ).but (l:=[]) (ae HBW) (by simp))
 generalize w.heap.size=gz at *
 have Z:=af (And.intro z0 (And.intro z1 (And.intro z2 z3)))
 clear z0 z1 z2 z3
 go_loopw [10,11,12,13,14,15,41] (fun pu pd pl pr pb po i wr=>∃ (k u d l r b o:Nat) (ps' qs':List Nat),k≤n∧i=.int .i64 k∧pu=.int .u64 u∧pd=.int .u64 d∧pl=.int .u64 l∧pr=.int .u64 r∧pb=.int .u64 b∧po=.int .u64 o∧u < 18446744073709551616∧d < 18446744073709551616∧l < 18446744073709551616∧r < 18446744073709551616∧b≤1∧o≤1∧ps'.length=n∧qs'.length=n∧Hid (xk ps qs ps' qs' xx xy yx yy k u d l r b o∧But [g1,g2] W wr∧Seg wr g1 o1 ps'∧Seg wr g2 o2 qs')) (fun _ _ _ _ _ _ i _=>n-(intOf i).toNat)
 case atStart=>exact⟨0,0,0,0,0,0,0,ps,qs,Nat.zero_le _,rfl,rfl,rfl,rfl,rfl,rfl,rfl,by omega,by omega,by omega,by omega,by omega,by omega,hlp,hlq,ae I0,But.refl _ _,ae SP,ae SQ⟩
 case round =>(
 clear I0 SP SQ
 obtain⟨k,u,d,l,r,b,o,ps',qs',hk,rfl,rfl,rfl,rfl,rfl,rfl,rfl,hu,hd,hll,hr,hb,ho,hlp',hlq',HI⟩:=hrel
 rename World=>wr
 by_cases hlt:k<n
 ·(
 obtain⟨pa,pf⟩:=(ae HI).2.2.1 k (by omega)
 obtain⟨qa,qf⟩:=(ae HI).2.2.2 k (by omega)
 have z0:=(ae HI).2.1.ag (ae Z).1 (by simp[hzp,hzq])
 have z1:=(ae HI).2.1.ag (ae Z).2.1 (by simp[hzp,hzq])
 have z2:=(ae HI).2.1.ag (ae Z).2.2.1 (by simp[hzp,hzq])
 have z3:=(ae HI).2.1.ag (ae Z).2.2.2 (by simp[hzp,hzq])
 have ea:=zgq _ _ _ (ae HI).1.dp
 have eb:=zgq _ _ _ (ae HI).1.dq
 rw[ea] at pa
 rw[eb] at qa
 have haB:ps[k]?.getD 0 < 18446744073709551616:=bt (ae MP) (by omega) k
 have hbB:qs[k]?.getD 0 < 18446744073709551616:=bt (ae MQ) (by omega) k
 obtain⟨p1,u',hp1,hu',e1⟩:=bp xx (ps[k]?.getD 0) u hxx haB hu
 obtain⟨m1,d',hm1,hd',e2⟩:=bp xy (qs[k]?.getD 0) d hxy hbB hd
 obtain⟨p2,r',hp2,hr',e4⟩:=bp yy (qs[k]?.getD 0) r hyy hbB hr
 obtain⟨m2,l',hm2,hl',e5⟩:=bp yx (ps[k]?.getD 0) l hyx haB hll
 obtain⟨s1,b',hs1,hb',e3⟩:=xg p1 m1 b hp1 hm1 hb
 obtain⟨s2,o',hs2,ho',e6⟩:=xg p2 m2 o hp2 hm2 ho
 have T1:=af (fun W=>qy xx (ps[k]?.getD 0) u p1 u' hxx haB hu hp1 hu' e1 W)
 have T2:=af (fun W=>qy xy (qs[k]?.getD 0) d m1 d' hxy hbB hd hm1 hd' e2 W)
 have T4:=af (fun W=>qy yy (qs[k]?.getD 0) r p2 r' hyy hbB hr hp2 hr' e4 W)
 have T5:=af (fun W=>qy yx (ps[k]?.getD 0) l m2 l' hyx haB hll hm2 hl' e5 W)
 have S3:=fun W=>zjx p1 m1 b hb s1 b' e3 hs1 hp1 hm1 W
 have S6:=fun W=>zjx p2 m2 o ho s2 o' e6 hs2 hp2 hm2 W
 have ST:=af ((ae HI).1.step (by omega) (by omega) s1 s2 u' d' l' r' b' o' p1 m1 p2 m2 hs1 hs2 e1 e2 e3 e4 e5 e6)
 clear e1 e2 e3 e4 e5 e6 ea eb
 generalize ps[k]?.getD 0=a at *
 generalize qs[k]?.getD 0=c at *
 go_wp2
 go_quiet (fail)
 obtain⟨V,hV⟩:∃ V,V=wr.drewN nq:=⟨_,rfl⟩
 rw[← hV]
 have hVc:∀ p,V.cell? p=wr.cell? p:=fun p=>by rw[hV];rfl
 have hVf:∀ p,V.frozen? p=wr.frozen? p:=fun p=>by rw[hV];rfl
 rw[← hVc] at pa qa z0 z1 z2 z3
 rw[← hVf] at pf qf
 have HB2:Hid (But [g1,g2] W V):=by show But _ _ _;rw[hV];exact (ae HI).2.1.drewN nq
 have SPV:Hid (Seg V g1 o1 ps'):=by show Seg _ _ _ _;rw[hV];exact (ae HI).2.2.1
 have SQV:Hid (Seg V g2 o2 qs'):=by show Seg _ _ _ _;rw[hV];exact (ae HI).2.2.2
 clear hV hVc hVf HI
 go_wp2_with fail
 refine (ae T1 _).mono ?_
 rintro e w1 ⟨rfl,hw⟩
 obtain rfl:=hw.symm
 clear hw
 go_wp2_with fail
 refine (ae T2 _).mono ?_
 rintro e w1 ⟨rfl,hw⟩
 obtain rfl:=hw.symm
 clear hw
 go_wp2_with fail
 refine (ae T4 _).mono ?_
 rintro e w1 ⟨rfl,hw⟩
 obtain rfl:=hw.symm
 clear hw
 go_wp2_with fail
 refine (ae T5 _).mono ?_
 rintro e w1 ⟨rfl,hw⟩
 obtain rfl:=hw.symm
 clear hw
 go_wp2
 have sp:=(ae SPV).set k (by omega) s1
 have b1:But [g1] V (V.setCell ⟨g1,o1+k,none⟩ (.int .u64 (s1:Int))):=(But.refl _ _).setCell (by simp) _
 have sq:=((ae SQV).but b1 (by simpa using hpq.symm)).set k (by omega) s2
 have b2:But [g2] (V.setCell ⟨g1,o1+k,none⟩ (.int .u64 (s1:Int))) ((V.setCell ⟨g1,o1+k,none⟩ (.int .u64 (s1:Int))).setCell ⟨g2,o2+k,none⟩ (.int .u64 (s2:Int))):=(But.refl _ _).setCell (by simp) _
 refine⟨⟨k+1,u',d',l',r',b',o',ps'.set k s1,qs'.set k s2,by omega,by go_num,rfl,rfl,rfl,rfl,rfl,rfl,hu',hd',hl',hr',hb',ho',by rw[List.length_set];exact hlp',by rw[List.length_set];exact hlq',ae ST,((ae HB2).setCell (.inl (by simp)) _).setCell (.inl (by simp)) _,sp.but b2 (by simpa using hpq),sq⟩,?_⟩
 simp[intOf];omega)
 ·(
 have hke:k=n:=by omega
 subst hke
 have hf:=ae hfin ps' qs' u d l r b o (ae HI).1
 have sp:=(ae HI).2.2.1.sl cx (by omega)
 have sq:=(ae HI).2.2.2.sl cy (by omega)
 rw[hlp'] at sp
 rw[hlq'] at sq
 have HSP:=af sp
 have HSQ:=af sq
 have HF:=af hf
 have hlp2:ps'.length<2147483648:=by omega
 have hlq2:qs'.length<2147483648:=by omega
 clear sp sq hf
 go_wp2_with fail
 refine (zz _ ps' _ (ae HSP) (ae HI).1.mp hlp2).mono ?_
 rintro e w3 ⟨v1,rfl,hv1,hw,hsb1⟩
 obtain rfl:=hw.symm
 clear hw
 have ho1:=zop (ae HI).2.2.1 hsb1 hv1 (zen _ (ae HI).1.mp)
 rw[(ae HF).1] at hv1
 have H1:=af (And.intro hv1 ho1)
 clear hv1 hsb1 ho1
 go_wp2_with fail
 refine (zz _ qs' _ (ae HSQ) (ae HI).1.mq hlq2).mono ?_
 rintro e w3 ⟨v2,rfl,hv2,hw,hsb2⟩
 obtain rfl:=hw.symm
 clear hw
 have ho2:=zop (ae HI).2.2.2 hsb2 hv2 (zen _ (ae HI).1.mq)
 rw[(ae HF).2] at hv2
 have H2:=af (And.intro hv2 ho2)
 clear hv2 hsb2 ho2
 go_wp2
 go_ret2
 refine⟨v1,v2,rfl,(ae H1).1,(ae H2).1,?_,(ae H1).2,(ae H2).2⟩
 exact (But.of_nil (ae HBW)).trans (ae HI).2.1 (fun x hx=>.inl (by simp at hx ⊢;omega)))))
theorem ztc (g1 o1 cx g2 o2 cy nx n:Nat) (ps qs:List Nat) (w:World) (xx xy yx yy:Nat) (hxx:xx < 18446744073709551616) (hxy:xy < 18446744073709551616) (hyx:yx < 18446744073709551616) (hyy:yy < 18446744073709551616) (hne:g1≠g2) (hP:Seg w g1 o1 qs) (hQ:Seg w g2 o2 ps) (hlp:ps.length=n) (hlq:qs.length=n) (hn0:0<n) (hnx:n≤nx) (hcx:nx≤cx) (hcy:n≤cy) (hl:nx<1073741824) (mp:∀ x ∈ ps,x < 18446744073709551616) (mq:∀ x ∈ qs,x < 18446744073709551616) (X' Y':Nat)
   (hfin:Hid (∀ ps' qs' u d l r b o,xk ps qs ps' qs' xy xx yy yx n u d l r b o→vl 18446744073709551616 ps'=X'∧vl 18446744073709551616 qs'=Y')) :
   Calls prog 240 #[.agg #[.int .u64 (xx:Int),.int .u64 (xy:Int),.int .u64 (yx:Int),.int .u64 (yy:Int),.bool true],.slice (some ⟨g1,o1,none⟩) nx cx,.slice (some ⟨g2,o2,none⟩) n cy] w fun e w'=>∃ v1 v2,e=.returned (.tuple #[v1,v2])∧Sl .u64 w' v1 (wd 18446744073709551616 X')∧Sl .u64 w' v2 (wd 18446744073709551616 Y')∧But [g1,g2] w w'∧zlj g2 w' v1∧zlj g1 w' v2:=by(
 have hb1:g1<w.heap.size:=hP.lt (by omega)
 have hb2:g2<w.heap.size:=hQ.lt (by omega)
 have I0:Hid (xk ps qs ps qs xy xx yy yx 0 0 0 0 0 0 0):=xk.start ps qs xy xx yy yx mp mq
 have HP:=af hP
 have HQ:=af hQ
 have MP:=af mp
 have MQ:=af mq
 clear hP hQ mp mq
 have hnI:(n:Int)≤(cx:Int):=by omega
 go_enter func240,ntmps240
 go_wp2
 obtain⟨W,hW⟩:∃ W,W=w.alloc (.cells #[.int .u64 (xy:Int),.int .u64 (xx:Int),.int .u64 (yy:Int),.int .u64 (yx:Int),.bool false] 276):=⟨_,rfl⟩
 have HBW:Hid (But [] w W):=by show But _ _ _;rw[hW];exact (But.refl _ _).alloc _
 have z0:W.cell? ⟨w.heap.size,0,none⟩=some (.int .u64 (xy:Int)):=by rw[hW];simp
 have z1:W.cell? ⟨w.heap.size,1,none⟩=some (.int .u64 (xx:Int)):=by rw[hW];simp
 have z2:W.cell? ⟨w.heap.size,2,none⟩=some (.int .u64 (yy:Int)):=by rw[hW];simp
 have z3:W.cell? ⟨w.heap.size,3,none⟩=some (.int .u64 (yx:Int)):=by rw[hW];simp
 rw[← hW]
 clear hW
 have hzp:w.heap.size≠g2:=by omega
 have hzq:w.heap.size≠g1:=by omega
 have hpq:g2≠g1:=by omega
 have SP:=af ((ae HQ).but (l:=[]) (ae HBW) (by simp))
 have SQ:=af ((ae HP).but (l:=[]) (ae HBW) (by simp))
 generalize w.heap.size=gz at *
 have Z:=af (And.intro z0 (And.intro z1 (And.intro z2 z3)))
 clear z0 z1 z2 z3
 go_loopw [10,11,12,13,14,15,41] (fun pu pd pl pr pb po i wr=>∃ (k u d l r b o:Nat) (ps' qs':List Nat),k≤n∧i=.int .i64 k∧pu=.int .u64 u∧pd=.int .u64 d∧pl=.int .u64 l∧pr=.int .u64 r∧pb=.int .u64 b∧po=.int .u64 o∧u < 18446744073709551616∧d < 18446744073709551616∧l < 18446744073709551616∧r < 18446744073709551616∧b≤1∧o≤1∧ps'.length=n∧qs'.length=n∧Hid (xk ps qs ps' qs' xy xx yy yx k u d l r b o∧But [g2,g1] W wr∧Seg wr g2 o2 ps'∧Seg wr g1 o1 qs')) (fun _ _ _ _ _ _ i _=>n-(intOf i).toNat)
 case atStart=>exact⟨0,0,0,0,0,0,0,ps,qs,Nat.zero_le _,rfl,rfl,rfl,rfl,rfl,rfl,rfl,by omega,by omega,by omega,by omega,by omega,by omega,hlp,hlq,ae I0,But.refl _ _,ae SP,ae SQ⟩
 case round =>(
 clear I0 SP SQ
 obtain⟨k,u,d,l,r,b,o,ps',qs',hk,rfl,rfl,rfl,rfl,rfl,rfl,rfl,hu,hd,hll,hr,hb,ho,hlp',hlq',HI⟩:=hrel
 rename World=>wr
 by_cases hlt:k<n
 ·(
 obtain⟨pa,pf⟩:=(ae HI).2.2.1 k (by omega)
 obtain⟨qa,qf⟩:=(ae HI).2.2.2 k (by omega)
 have z0:=(ae HI).2.1.ag (ae Z).1 (by simp[hzp,hzq])
 have z1:=(ae HI).2.1.ag (ae Z).2.1 (by simp[hzp,hzq])
 have z2:=(ae HI).2.1.ag (ae Z).2.2.1 (by simp[hzp,hzq])
 have z3:=(ae HI).2.1.ag (ae Z).2.2.2 (by simp[hzp,hzq])
 have ea:=zgq _ _ _ (ae HI).1.dp
 have eb:=zgq _ _ _ (ae HI).1.dq
 rw[ea] at pa
 rw[eb] at qa
 have haB:ps[k]?.getD 0 < 18446744073709551616:=bt (ae MP) (by omega) k
 have hbB:qs[k]?.getD 0 < 18446744073709551616:=bt (ae MQ) (by omega) k
 obtain⟨p1,u',hp1,hu',e1⟩:=bp xy (ps[k]?.getD 0) u hxy haB hu
 obtain⟨m1,d',hm1,hd',e2⟩:=bp xx (qs[k]?.getD 0) d hxx hbB hd
 obtain⟨p2,r',hp2,hr',e4⟩:=bp yx (qs[k]?.getD 0) r hyx hbB hr
 obtain⟨m2,l',hm2,hl',e5⟩:=bp yy (ps[k]?.getD 0) l hyy haB hll
 obtain⟨s1,b',hs1,hb',e3⟩:=xg p1 m1 b hp1 hm1 hb
 obtain⟨s2,o',hs2,ho',e6⟩:=xg p2 m2 o hp2 hm2 ho
 have T1:=af (fun W=>qy xy (ps[k]?.getD 0) u p1 u' hxy haB hu hp1 hu' e1 W)
 have T2:=af (fun W=>qy xx (qs[k]?.getD 0) d m1 d' hxx hbB hd hm1 hd' e2 W)
 have T4:=af (fun W=>qy yx (qs[k]?.getD 0) r p2 r' hyx hbB hr hp2 hr' e4 W)
 have T5:=af (fun W=>qy yy (ps[k]?.getD 0) l m2 l' hyy haB hll hm2 hl' e5 W)
 have S3:=fun W=>zjx p1 m1 b hb s1 b' e3 hs1 hp1 hm1 W
 have S6:=fun W=>zjx p2 m2 o ho s2 o' e6 hs2 hp2 hm2 W
 have ST:=af ((ae HI).1.step (by omega) (by omega) s1 s2 u' d' l' r' b' o' p1 m1 p2 m2 hs1 hs2 e1 e2 e3 e4 e5 e6)
 clear e1 e2 e3 e4 e5 e6 ea eb
 generalize ps[k]?.getD 0=a at *
 generalize qs[k]?.getD 0=c at *
 go_wp2
 go_quiet (fail)
 obtain⟨V,hV⟩:∃ V,V=wr.drewN nq:=⟨_,rfl⟩
 rw[← hV]
 have hVc:∀ p,V.cell? p=wr.cell? p:=fun p=>by rw[hV];rfl
 have hVf:∀ p,V.frozen? p=wr.frozen? p:=fun p=>by rw[hV];rfl
 rw[← hVc] at pa qa z0 z1 z2 z3
 rw[← hVf] at pf qf
 have HB2:Hid (But [g2,g1] W V):=by show But _ _ _;rw[hV];exact (ae HI).2.1.drewN nq
 have SPV:Hid (Seg V g2 o2 ps'):=by show Seg _ _ _ _;rw[hV];exact (ae HI).2.2.1
 have SQV:Hid (Seg V g1 o1 qs'):=by show Seg _ _ _ _;rw[hV];exact (ae HI).2.2.2
 clear hV hVc hVf HI
 go_wp2_with fail
 refine (ae T1 _).mono ?_
 rintro e w1 ⟨rfl,hw⟩
 obtain rfl:=hw.symm
 clear hw
 go_wp2_with fail
 refine (ae T2 _).mono ?_
 rintro e w1 ⟨rfl,hw⟩
 obtain rfl:=hw.symm
 clear hw
 go_wp2_with fail
 refine (ae T4 _).mono ?_
 rintro e w1 ⟨rfl,hw⟩
 obtain rfl:=hw.symm
 clear hw
 go_wp2_with fail
 refine (ae T5 _).mono ?_
 rintro e w1 ⟨rfl,hw⟩
 obtain rfl:=hw.symm
 clear hw
 go_wp2
 have sp:=(ae SPV).set k (by omega) s1
 have b1:But [g2] V (V.setCell ⟨g2,o2+k,none⟩ (.int .u64 (s1:Int))):=(But.refl _ _).setCell (by simp) _
 have sq:=((ae SQV).but b1 (by simpa using hpq.symm)).set k (by omega) s2
 have b2:But [g1] (V.setCell ⟨g2,o2+k,none⟩ (.int .u64 (s1:Int))) ((V.setCell ⟨g2,o2+k,none⟩ (.int .u64 (s1:Int))).setCell ⟨g1,o1+k,none⟩ (.int .u64 (s2:Int))):=(But.refl _ _).setCell (by simp) _
 refine⟨⟨k+1,u',d',l',r',b',o',ps'.set k s1,qs'.set k s2,by omega,by go_num,rfl,rfl,rfl,rfl,rfl,rfl,hu',hd',hl',hr',hb',ho',by rw[List.length_set];exact hlp',by rw[List.length_set];exact hlq',ae ST,((ae HB2).setCell (.inl (by simp)) _).setCell (.inl (by simp)) _,sp.but b2 (by simpa using hpq),sq⟩,?_⟩
 simp[intOf];omega)
 ·(
 have hke:k=n:=by omega
 subst hke
 have hf:=ae hfin ps' qs' u d l r b o (ae HI).1
 have sp:=(ae HI).2.2.1.sl cy (by omega)
 have sq:=(ae HI).2.2.2.sl cx (by omega)
 rw[hlp'] at sp
 rw[hlq'] at sq
 have HSP:=af sp
 have HSQ:=af sq
 have HF:=af hf
 have hlp2:ps'.length<2147483648:=by omega
 have hlq2:qs'.length<2147483648:=by omega
 clear sp sq hf
 go_wp2_with fail
 refine (zz _ ps' _ (ae HSP) (ae HI).1.mp hlp2).mono ?_
 rintro e w3 ⟨v1,rfl,hv1,hw,hsb1⟩
 obtain rfl:=hw.symm
 clear hw
 have ho1:=zop (ae HI).2.2.1 hsb1 hv1 (zen _ (ae HI).1.mp)
 rw[(ae HF).1] at hv1
 have H1:=af (And.intro hv1 ho1)
 clear hv1 hsb1 ho1
 go_wp2_with fail
 refine (zz _ qs' _ (ae HSQ) (ae HI).1.mq hlq2).mono ?_
 rintro e w3 ⟨v2,rfl,hv2,hw,hsb2⟩
 obtain rfl:=hw.symm
 clear hw
 have ho2:=zop (ae HI).2.2.2 hsb2 hv2 (zen _ (ae HI).1.mq)
 rw[(ae HF).2] at hv2
 have H2:=af (And.intro hv2 ho2)
 clear hv2 hsb2 ho2
 go_wp2
 go_ret2
 refine⟨v1,v2,rfl,(ae H1).1,(ae H2).1,?_,(ae H1).2,(ae H2).2⟩
 exact (But.of_nil (ae HBW)).trans (ae HI).2.1 (fun x hx=>.inl (by simp at hx ⊢;omega)))))
theorem jb {P:Program} {w:World} {ops:Array Oper} {rest:List Oper} {o:Oper} {a:Act} {Q:Exit→Act→World→Prop} (hgd:o.guard=none) (s x:Operand) (t u:TypeId)
  (ho:o.op=.call { callee:=.builtin .append,args:=#[s,x],argTypes:=#[t,u] }) (vs vx v':Value) (w':World) (hs:a.eval s=vs) (hx:a.eval x=vx)
  (hr:(Builtin.append_ #[t,u] o.type #[vs,vx]).run P w=.ok v' w') (h:wpList P ops Q rest (a.put o.dst v') w'):wpList P ops Q (o::rest) a w :=
 wpList_plain hgd fun _ hK=>by
  unfold Oper.wp execOp
  simp only[ho,resolve,invoke,builtin,Sem.run_bind,Sem.run_pure,Result.andThen_ok,List.map_toArray,List.map_cons,List.map_nil,hs,hx,hr]
  exact hK _ _ h
theorem znq (b off c:Nat) (xs:List Nat) (w:World) (hv:Sl .u64 w (.slice (some ⟨b,off,none⟩) xs.length c) xs) (h0:0<xs.length) (hl:xs.length<1073741824) :
   Calls prog 206 #[.slice (some ⟨b,off,none⟩) xs.length c] w fun e w'=>∃ v',e=.returned v'∧Sl .u64 w' v' xs∧But [] w w'∧Own w.heap.size w' v'∧(∃ g c',v'=.slice (some ⟨g,0,none⟩) xs.length c'):=by(
 have hnil:=fun W=>Lib.run_eql_slice_nil (P:=prog) W 103 24 (some ⟨b,off,none⟩) xs.length c 0 0 underlying103
 obtain⟨i,hi,hz,hs,hbt⟩:=zru
 obtain⟨W0,hW0⟩:∃ W0,W0=w.alloc (.cells #[] 24):=⟨_,rfl⟩
 have hb0:But [] w W0:=by rw[hW0];exact (But.refl _ _).alloc _
 have hv0:=hv.ah hb0
 rcases hv0.open with ⟨e,-⟩|⟨-,b',off',c',e,hc,-,hcell⟩
 ·rw[e] at h0;simp at h0
 simp only[Value.slice.injEq,Option.some.injEq,Addr.mk.injEq] at e
 obtain⟨⟨rfl,rfl,-⟩,-,rfl⟩:=e
 have hr:=fun ty=>run_append_grow (P:=prog) W0 103 ty 24 i (.int .u64 0) underlying103 hi hz ⟨w.heap.size,0,none⟩ 0 0 [] (by simp) (by simp) ⟨b,off,none⟩ xs.length c (xs.map fun (x:Nat)=>Value.int .u64 (x:Int)) (by simp[hs]) (fun j v hj=>by
  obtain⟨h1,rfl⟩:=zgo xs j v hj
  rw[addr_add];exact hcell j h1) (by omega) (by omega) (growslice_fits (by omega) (by rw[hbt];omega))
 have hcg:=grownCap_ge W0 (0+xs.length) 0 24
 rw[Nat.zero_add] at hr hcg
 generalize grownCap W0 xs.length 0 24 = cg at hr hcg
 have hsz:W0.heap.size=w.heap.size+1:=by rw[hW0];simp
 rw[hW0] at hr
 have H:=af hr
 have HW0:=af hW0
 have HB0:=af hb0
 have HSZ:=af hsz
 clear hr hi hz hs hbt i hv hcell hv0 hW0 hb0 hsz
 go_enter func206,ntmps206
 go_wp2_with (at_builtin;refine jb rfl _ _ 103 103 rfl _ _ _ _ rfl rfl (ae H _) ?_)
 go_ret
 rw[← ae HW0]
 have es:w.heap.size+1=W0.heap.size:=(ae HSZ).symm
 refine⟨.slice (some ⟨w.heap.size+1,0,none⟩) xs.length cg,rfl,?_,((ae HB0).alloc _).drew,?_,⟨_,_,rfl⟩⟩
 ·(
 rw[es]
 exact Sl.mk W0.heap.size 0 cg hcg (fun j hj=>by
  rw[Nat.zero_add,World.cell?_drew,World.cell?_alloc_new,Array.getElem?_append_left (by simp;exact hj)]
  simp[hj]) (fun _ i v hv=>by
  rw[World.cell?_drew,World.cell?_alloc_new] at hv
  have hm:=Array.mem_of_getElem? hv
  rw[Array.mem_append] at hm
  rcases hm with hm | hm
  ·simp only[List.mem_toArray,List.mem_map] at hm
   obtain⟨x,-,rfl⟩:=hm
   exact⟨_,rfl⟩
  ·unfold Builtin.zeroCells at hm
   exact⟨0,by simp at hm;grind⟩))
 ·(
 intro b off n c e
 simp only[Value.slice.injEq,Option.some.injEq,Addr.mk.injEq] at e
 obtain⟨⟨rfl,rfl,-⟩,-,-⟩:=e
 refine⟨by omega,fun i _=>?_⟩
 rw[es]
 simp))
def Apart (v1 v2:Value):Prop:=∀ b off n c b' off' n' c',v1=.slice (some ⟨b,off,none⟩) n c→v2=.slice (some ⟨b',off',none⟩) n' c'→b≠b'
structure zmr (lo:Nat) (w:World) (v1 v2:Value) (X Y:Nat):Prop where
 s1:Sl .u64 w v1 (wd 18446744073709551616 X)
 s2:Sl .u64 w v2 (wd 18446744073709551616 Y)
 o1:Own lo w v1
 o2:Own lo w v2
 ap:Apart v1 v2
theorem Sl.seg {w:World} {g o c n:Nat} {xs:List Nat} (h:Sl .u64 w (.slice (some ⟨g,o,none⟩) n c) xs) (ho:∀ i,i<n→w.frozen? ⟨g,o+i,none⟩=false):Seg w g o xs:=⟨fun i hi=>by
 obtain⟨a,cap,e,-,hc,-⟩:=h
 simp only[Value.slice.injEq] at e
 obtain⟨rfl,rfl,-⟩:=e
 obtain⟨b,off,e,h2⟩:=hc i hi
 simp only[Option.some.injEq,Addr.mk.injEq] at e
 obtain⟨rfl,rfl,-⟩:=e
 exact⟨h2,ho i hi⟩,fun h0=>by
 obtain⟨a,cap,e,-,-,hi⟩:=h
 simp only[Value.slice.injEq] at e
 obtain⟨rfl,-,-⟩:=e
 exact hi _ _ rfl h0⟩
theorem zlj.own {g lo:Nat} {w:World} {v:Value} (h:zlj g w v) (hg:lo≤g):Own lo w v:=fun b off n c e=>by
 obtain⟨rfl,h2⟩:=h b off n c e
 exact⟨hg,h2⟩
theorem Own.but {lo:Nat} {w w':World} {v:Value} {k:IntKind} {xs:List Nat} (h:Own lo w v) (hs:Sl k w v xs) (hb:But [] w w'):Own lo w' v:=fun b off n c e=>by
 obtain⟨h1,h2⟩:=h b off n c e
 refine⟨h1,fun i hi=>?_⟩
 obtain⟨a,cap,e2,-,hc,-⟩:=hs
 rw[e] at e2
 simp only[Value.slice.injEq] at e2
 obtain⟨rfl,rfl,-⟩:=e2
 obtain⟨b',off',e3,h4⟩:=hc i hi
 simp only[Option.some.injEq,Addr.mk.injEq] at e3
 obtain⟨rfl,rfl,-⟩:=e3
 exact (hb.frozen (p:=⟨b,off+i,none⟩) (ai h4) (by simp)).trans (h2 i hi)
theorem zmr.but {lo:Nat} {w w':World} {v1 v2:Value} {X Y:Nat} (h:zmr lo w v1 v2 X Y) (hb:But [] w w'):zmr lo w' v1 v2 X Y :=
 ⟨h.s1.ah hb,h.s2.ah hb,h.o1.but h.s1 hb,h.o2.but h.s2 hb,h.ap⟩
end Go.Proofs.YtagmkkiagjmimaaGreatDoor
