/- Division word by word, as the Go text of -/
import Derived.Test.YtagmkkiagjmimaaGreatDoorYN12
import Derived.Test.YtagmkkiagjmimaaGreatDoorYNA
namespace Go.Proofs.YtagmkkiagjmimaaGreatDoor
set_option linter.unusedVariables false
open Go.Proofs.Tryz
open Go.RowKit
set_option maxHeartbeats 8000000
set_option maxRecDepth 100000
theorem zbe.start (X Y nx n:Nat) (hx:(wd 18446744073709551616 X).length=nx) (hy:(wd 18446744073709551616 Y).length=n) (hn:0<n) (hle:n≤nx):zbe X Y nx n (wd 18446744073709551616 X++[0]) (List.replicate (nx+1-n) 0) (nx+1-n):=by(
 refine⟨by simp[hx],by simp,?_,fun x hx=>by rw[List.mem_replicate] at hx;omega,?_,by rw[sw,qy (by omega),jc,Nat.mul_zero,Nat.add_zero],fun j _=>by rw[List.getElem?_replicate];split <;> rfl⟩
 ·intro x hx
  rcases List.mem_append.1 hx with h | h
  ·exact zt (by omega) X x h
  ·simp at h;omega
 ·(
 rw[sw,qy (by omega)]
 have h1:=zek X
 rw[hx] at h1
 have h2:18446744073709551616^(n-1)≤Y:=by
  rcases Nat.lt_or_ge Y (18446744073709551616^(n-1)) with h | h
  ·have:=aj (B:=18446744073709551616) (by omega) Y (n-1) h
   omega
  ·exact h
 have h3:18446744073709551616^nx=18446744073709551616^(n-1) * 18446744073709551616^(nx+1-n):=by rw[← Nat.pow_add];congr 1;omega
 exact Nat.lt_of_lt_of_le h1 (by rw[h3];exact Nat.mul_le_mul_right _ h2)))
theorem zsc (wx:World) (nx n:Nat) (h:nx<1073741824) (hn:n≤nx):(Instr.makeSlice 102 (.int .i64 ((nx:Int)-(n:Int)+1)) (.int .i64 ((nx:Int)-(n:Int)+1))).run prog wx=.ok (.slice (some ⟨wx.heap.size,0,none⟩) (nx+1-n) (nx+1-n)) (wx.alloc (.cells (madeCells #[.int .u64 0] (nx+1-n)) 24)):=by(
 have:=kw wx (nx+1-n) (by omega)
 rw[show ((nx+1-n:Nat):Int)=(nx:Int)-(n:Int)+1 from by omega] at this
 exact this)
theorem zjx (g o cap l i n:Nat) (hi:i<cap) (hn:i+n≤cap) (hc:cap<1073741824) (W:World):(Instr.slice 102 (.slice (some ⟨g,o,none⟩) l cap) (some (.int .i64 (i:Int))) (some (.int .i64 ((i:Int)+(n:Int)))) none).run prog W=.ok (.slice (some ⟨g,o+i,none⟩) n (cap-i)) W:=by(
 have h1:(0:Int)≤(i:Int):=by omega
 have h2:(i:Int)≤(i:Int)+(n:Int):=by omega
 have h3:(i:Int)+(n:Int)≤(cap:Int):=by omega
 have h4:(i:Int)<(cap:Int):=by omega
 have hu:=underlying102
 go_simp
 exact⟨by omega,by omega⟩)
theorem znm (g o cap l i n:Nat) (hi:i<cap) (hn:i+n≤cap) (hc:cap<1073741824) (W:World):(Instr.sliceAt 102 (.slice (some ⟨g,o,none⟩) l cap) (some (.int .i64 (i:Int))) (some (.int .i64 ((i:Int)+(n:Int)))) none).run prog W=.ok (.slice (some ⟨g,o+i,none⟩) n (cap-i)) W:=by(
 rw[run_sliceAt_slice]
 ·exact zjx g o cap l i n hi hn hc W
 ·kernel_rfl)
theorem zjh (vx vy:Value) (X Y:Nat) (w:World) (hx:Sl .u64 w vx (wd 18446744073709551616 X)) (hy:Sl .u64 w vy (wd 18446744073709551616 Y)) (h2:2≤(wd 18446744073709551616 Y).length) (hle:(wd 18446744073709551616 Y).length≤(wd 18446744073709551616 X).length) (hl:(wd 18446744073709551616 X).length<268435456) :
   Calls prog 252 #[vx,vy] w fun e w'=>∃ v1 v2,e=.returned (.tuple #[v1,v2])∧Sl .u64 w' v1 (wd 18446744073709551616 (X/Y))∧Sl .u64 w' v2 (wd 18446744073709551616 (X%Y))∧But [] w w'∧Own w.heap.size w' v2∧rz w.heap.size v1:=by(
 obtain⟨a1,c1,rfl,hc1,-⟩:=id hx
 rcases hy.open with ⟨e,-⟩|⟨-,b2,o2,c2,rfl,hc2,hb2,-⟩
 ·rw[e] at h2;simp at h2
 have hYp:=zek Y
 have MY:=af (zt (B:=18446744073709551616) (by omega) Y)
 have VY:=af (qy (B:=18446744073709551616) (by omega) Y)
 obtain⟨w2,hcp,HC⟩:=jl (P:=prog) (w.alloc (.cells (madeCells #[.int .u64 0] ((wd 18446744073709551616 X).length+1)) 24)) 102 103 24 underlying102 nk w.heap.size 0 ((wd 18446744073709551616 X).length+1) ((wd 18446744073709551616 X).length+1) _ (List.replicate ((wd 18446744073709551616 X).length+1) 0) (wd 18446744073709551616 X) (Seg.made _ _ _) (by simp) (hx.ah (ku _ _ _)) (by simp)
 have e1:wd 18446744073709551616 X++(List.replicate ((wd 18446744073709551616 X).length+1) 0).drop (wd 18446744073709551616 X).length=wd 18446744073709551616 X++[0]:=by rw[List.drop_replicate,show (wd 18446744073709551616 X).length+1-(wd 18446744073709551616 X).length=1 from by omega];rfl
 rw[e1] at HC
 have hst:=zbe.start X Y (wd 18446744073709551616 X).length (wd 18446744073709551616 Y).length rfl rfl (by omega) hle
 have hB2:But [] w w2:=((ku w ((wd 18446744073709551616 X).length+1) 24).trans (ae HC).2.but (fun x hx=>by simp at hx;subst hx;exact .inr (Nat.le_refl _)))
 have hg:w.heap.size<w2.heap.size:=Nat.lt_of_lt_of_le (by simp) (ae HC).2.but.size
 have hmk1:=fun wx=>zet wx (wd 18446744073709551616 X).length (by omega)
 have hmk2:=fun wx=>zsc wx (wd 18446744073709551616 X).length (wd 18446744073709551616 Y).length (by omega) hle
 have hyo:Off w.heap.size (.slice (some ⟨b2,o2,none⟩) (wd 18446744073709551616 Y).length c2):=fun b off n c e=>by
  simp only[Value.slice.injEq,Option.some.injEq,Addr.mk.injEq] at e
  obtain⟨⟨rfl,-⟩,-⟩:=e
  omega
 have hs0:=(ae HC).1
 generalize hxs:wd 18446744073709551616 X++[0]=r0 at *
 clear hxs e1
 have HY:=af hy
 have HYO:=af hyo
 have A0:=af (And.intro hst (And.intro hB2 hs0))
 have HYP:=af hYp
 clear hx hy HC hst hs0 hyo hYp
 generalize hnx:(wd 18446744073709551616 X).length=nx at *
 generalize hys:wd 18446744073709551616 Y=ys at *
 generalize hn:ys.length=n at *
 have HN:=af hn
 clear hnx hys hn
 have A1:Hid (zbe X Y nx n r0 (List.replicate (nx+1-n) 0) (nx+1-n)∧But [] w (w2.alloc (.cells (madeCells #[.int .u64 0] (nx+1-n)) 24))∧Seg (w2.alloc (.cells (madeCells #[.int .u64 0] (nx+1-n)) 24)) w.heap.size 0 r0∧Seg (w2.alloc (.cells (madeCells #[.int .u64 0] (nx+1-n)) 24)) w2.heap.size 0 (List.replicate (nx+1-n) 0)) :=
  ⟨(ae A0).1,hB2.alloc _,(ae A0).2.2.but (l:=[]) ((But.refl _ _).alloc _) (by simp),Seg.made _ _ _⟩
 have HG:=af hg
 clear A0 hB2 hg hb2
 go_enter func252,ntmps252
 go_wp2
 go_loopw [9] (fun i wr=>∃ (k:Nat) (rs qs:List Nat),k≤nx+1-n∧i=.int .i64 ((k:Int)-1)∧rs.length=nx+1∧qs.length=nx+1-n∧Hid (zbe X Y nx n rs qs k∧But [] w wr∧Seg wr w.heap.size 0 rs∧Seg wr w2.heap.size 0 qs)) (fun i _=>(intOf i+1).toNat)
 case atStart=>exact⟨nx+1-n,r0,List.replicate (nx+1-n) 0,Nat.le_refl _,by go_num,(ae A1).1.lr,by simp,A1⟩
 case round =>(
 clear A1
 obtain⟨k,rs,qs,hk,rfl,hlr,hlq,HI⟩:=hrel
 rename World=>wr
 by_cases hk0:k=0
 ·(
 subst hk0
 obtain⟨hI,hB,hsr,hsq⟩:=ae HI
 have sq:=hsq.sl (nx+1-n) (by omega)
 have sr:=hsr.sl (nx+1) (by omega)
 rw[hlq] at sq
 rw[hlr] at sr
 have HSQ:=af sq
 have HSR:=af sr
 have HF:=af hI.fin
 have hlq2:qs.length<2147483648:=by omega
 have hlr2:rs.length<2147483648:=by omega
 clear sq sr hI hB hsr hsq HY
 go_wp2_with fail
 refine (qo _ qs _ (ae HSQ) (ae HI).1.mq hlq2).mono ?_
 rintro e w3 ⟨v1,rfl,hv1,hw,hsb1⟩
 obtain rfl:=hw.symm
 clear hw
 have hfr:=dw hsb1 (Nat.le_of_lt (ae HG))
 rw[(ae HF).1] at hv1
 have HV1:=af hv1
 have HFR:=af hfr
 clear hv1 hsb1 hfr
 go_wp2_with fail
 refine (qo _ rs _ (ae HSR) (ae HI).1.mr hlr2).mono ?_
 rintro e w3 ⟨v2,rfl,hv2,hw,hsb2⟩
 obtain rfl:=hw.symm
 clear hw
 have hown:=zqd (lo:=w.heap.size) (ae HI).2.2.1 hsb2 hv2 (aj (B:=18446744073709551616) (by omega) (vl 18446744073709551616 rs) rs.length (ni (by omega) rs (ae HI).1.mr)) (Nat.le_refl _)
 rw[(ae HF).2] at hv2
 have HV2:=af hv2
 have HOW:=af hown
 clear hv2 hsb2 hown
 go_wp2
 go_ret2
 exact⟨v1,v2,rfl,ae HV1,ae HV2,(ae HI).2.1,ae HOW,ae HFR⟩)
 ·(
 obtain⟨i,rfl⟩:∃ i,k=i+1:=⟨k-1,by omega⟩
 have hin:i+n<rs.length:=by omega
 obtain⟨hw1,hw2,hw3⟩:=(ae HI).1.win (ae HYP) hin
 have hsub:=(ae HI).2.2.1.sub i (n+1) (by omega)
 have lsub:((rs.drop i).take (n+1)).length=n+1:=by rw[List.length_take,List.length_drop];omega
 have hsl:=hsub.sl (nx+1-i) (by rw[lsub];omega)
 rw[lsub,Nat.zero_add] at hsl
 obtain⟨m,hm⟩:∃ m,n=m+2:=⟨n-2,by omega⟩
 have HGS:=af (ztt _ _ _ _ m wr hsl ((ae HY).ah (ae HI).2.1) (by rw[lsub,hm]) (by rw[ae HN,hm]) (fun x hx=>(ae HI).1.mr x (List.mem_of_mem_drop (List.mem_of_mem_take hx))) (ae MY) (by rw[hw1,ae VY];exact hw2) (by omega))
 rw[hw1,ae VY] at HGS
 have hsv:=(ae HI).2.2.1.sub i n (by omega)
 have lsv:((rs.drop i).take n).length=n:=by rw[List.length_take,List.length_drop];omega
 rw[Nat.zero_add] at hsv
 have msv:∀ x ∈ (rs.drop i).take n,x < 18446744073709551616:=fun x hx=>(ae HI).1.mr x (List.mem_of_mem_drop (List.mem_of_mem_take hx))
 obtain⟨ct,ft⟩:=(ae HI).2.2.1 (i+n) hin
 rw[Nat.zero_add] at ct ft
 have htB:rs[i+n]?.getD 0 < 18446744073709551616:=bt (ae HI).1.mr (by omega) _
 have ST:=af (fun vs q h1 h2 h3 h4 h5=>(ae HI).1.step (ae HYP) hin (by omega) vs q h1 h2 h3 h4 h5)
 have hyW:=(ae HY).ah (ae HI).2.1
 have HSU:=af (fun (W:World) (q:Nat) (hq:q < 18446744073709551616) (hS:Seg W w.heap.size i ((rs.drop i).take n)) (hyS:Sl .u64 W (.slice (some ⟨b2,o2,none⟩) n c2) ys)=>zpm w.heap.size i (nx+1-i) ((rs.drop i).take n) ys (.slice (some ⟨b2,o2,none⟩) n c2) q W hS (by rw[lsv];omega) hyS (fun _=>ae HYO) msv (ae MY) hq (by rw[lsv,ae HN]) (by rw[lsv];omega))
 rw[lsv,ae VY] at HSU
 have MST:=af (fun vs q c=>zjt.start (vl 18446744073709551616 (rs.drop i)) Y n (rs[i+n]?.getD 0) ((rs.drop i).take n) vs q c (ae HYP) hw3)
 have FT:=af ft
 clear ft
 obtain⟨cq,fq⟩:=(ae HI).2.2.2 i (by omega)
 rw[Nat.zero_add] at cq fq
 have CQ:=af cq
 have FQ:=af fq
 clear cq fq
 have HSV:=af hsv
 have HYW:=af hyW
 have HWH:=af (fun (W1:World) (vs:List Nat) (hp:Part w.heap.size i n wr W1) (hsg:Seg W1 w.heap.size i vs) (hl:vs.length=n)=>(ae HI).2.2.1.whole hp hsg hl (by omega))
 clear hw1 hw2 hw3 hsub lsub hsl hsv lsv msv hyW hm
 generalize rs[i+n]?.getD 0=t at *
 generalize vl 18446744073709551616 (rs.drop i)=D at *
 rw[show (((i+1:Nat):Int)-1)=(i:Int) from by omega]
 go_wp2_with fail
 rw[show i+n+1-i=n+1 from by omega]
 refine (ae HGS).mono ?_
 rintro e w3 ⟨q,rfl,hq,hDq,dn,hw⟩
 obtain⟨W,hW⟩:∃ W,W=w3:=⟨_,rfl⟩
 have hct:W.cell? ⟨w.heap.size,i+n,none⟩=some (.int .u64 (t:Int)):=by rw[hW,hw];exact ct
 have HPW:Hid (Part w.heap.size i n wr W):=by show Part _ _ _ _ _;rw[hW,hw];exact (Part.refl _ _ _ _).drewN dn
 have HSW:Hid (Seg W w.heap.size i ((rs.drop i).take n)):=by show Seg _ _ _ _;rw[hW,hw];exact ae HSV
 have HYW2:Hid (Sl .u64 W (.slice (some ⟨b2,o2,none⟩) n c2) ys):=by show Sl _ _ _ _;rw[hW,hw];exact ae HYW
 rw[← hW]
 clear hW hw HGS HSV HYW
 have HDQ:=af hDq
 have CT:=af ct
 clear hDq ct
 have hsl1:=fun W=>zjx w.heap.size 0 (nx+1) (nx+1) i n (by omega) (by omega) (by omega) W
 have hsl2:=fun W=>znm w.heap.size 0 (nx+1) (nx+1) i n (by omega) (by omega) (by omega) W
 rw[Nat.zero_add] at hsl1 hsl2
 have hwr:IntKind.i64.wrap ((i:Int)+(n:Int))=(i:Int)+(n:Int):=by rw[IntKind.wrap_i64];omega
 have htn:((i:Int)+(n:Int)).toNat=i+n:=by omega
 have i2:(i:Int)+(n:Int)<(nx:Int)+1:=by omega
 have i6:(0:Int)≤(i:Int)+(n:Int):=by omega
 go_wp2
 go_region_held (fun w'=>w'.cell? ⟨w.heap.size,i+n,none⟩=some (.int .u64 (t:Int))) (go_keep) (first
  | (go_at_call 265;refine (ae HSU _ q hq (by exact ae HSW) (by exact ae HYW2)).mono ?_;rintro e w4 ⟨c,vs,rfl,hcB,hlv,hmv,hvv,hsg,hpt⟩;have k4:=(hpt.cell (i+n) (.inr (Nat.le_refl _))).trans hct))
 obtain⟨htc,hme⟩:=ae MST vs q c hlv hmv hq hcB hvv (ae HDQ)
 have eM:IntKind.u64.wrap ((c:Int)-(t:Int))=((c-t:Nat):Int):=by rw[IntKind.wrap_u64];omega
 rw[eM]
 have hMB:c-t < 18446744073709551616:=by omega
 have A2:Hid (zjt D Y n vs q (c-t)∧Part w.heap.size i n wr w4∧Seg w4 w.heap.size i vs):=⟨hme,(ae HPW).trans (by first | exact hpt | exact ((Part.refl _ _ _ _).drewN 1).trans hpt),hsg⟩
 clear hme eM htc hvv hpt hsg HPW HSW HYW2 HDQ hmv k4 hct HSU MST htB
 generalize c-t=M at *
 clear hcB
 go_wp2
 go_loopw [10,11] (fun a b wq=>∃ (q M:Nat) (vs:List Nat),a=.int .u64 q∧b=.int .u64 M∧q < 18446744073709551616∧M < 18446744073709551616∧vs.length=n∧Hid (zjt D Y n vs q M∧Part w.heap.size i n wr wq∧Seg wq w.heap.size i vs)) (fun a _ _=>(intOf a).toNat)
 case atStart=>exact⟨q,M,vs,rfl,rfl,hq,hMB,hlv,A2⟩
 case round =>(
 clear A2 hq hMB hlv
 obtain⟨q,M,vs,rfl,rfl,hq,hMB,hlv,HJ⟩:=hrel
 rename World=>wq
 by_cases hM0:M=0
 ·(
 subst hM0
 have hfin:=(ae HJ).1.fin
 have hdiv:=ae ST vs q hlv (ae HJ).1.mem hq hfin.1 hfin.2
 have hwh:=ae HWH wq vs (ae HJ).2.1 (ae HJ).2.2 hlv
 have ct:=((ae HJ).2.1.cell (i+n) (.inr (Nat.le_refl _))).trans (ae CT)
 have ft:=((ae HJ).2.1.frozen (i+n)).trans (ae FT)
 have hgg:w2.heap.size≠w.heap.size:=by have:=ae HG;omega
 have cq:=(ae HJ).2.1.but.ag (ae CQ) (by simpa using hgg)
 have fq:=((ae HJ).2.1.but.frozen (p:=⟨w2.heap.size,i,none⟩) (ai (ae CQ)) (by simpa using hgg)).trans (ae FQ)
 have hsq:=(ae HI).2.2.2.but (ae HJ).2.1.but (by simpa using hgg)
 have hBq:But [] w wq:=(ae HI).2.1.trans (ae HJ).2.1.but (fun x hx=>by simp at hx;subst hx;exact .inr (Nat.le_refl _))
 have lrs:i+n<(rs.take i++vs++rs.drop (i+n)).length:=by have:=hdiv.lr;rw[List.length_set] at this;omega
 have s1:=hwh.set (i+n) lrs 0
 rw[Nat.zero_add] at s1
 have b1:But [w.heap.size] wq (wq.setCell ⟨w.heap.size,i+n,none⟩ (.int .u64 ((0:Nat):Int))):=(But.refl _ _).setCell (by simp) _
 have s2:=hsq.but b1 (by simpa using hgg)
 have s3:=s2.set i (by omega) q
 rw[Nat.zero_add] at s3
 have b2:But [w2.heap.size] (wq.setCell ⟨w.heap.size,i+n,none⟩ (.int .u64 ((0:Nat):Int))) ((wq.setCell ⟨w.heap.size,i+n,none⟩ (.int .u64 ((0:Nat):Int))).setCell ⟨w2.heap.size,i,none⟩ (.int .u64 (q:Int))):=(But.refl _ _).setCell (by simp) _
 have s4:=s1.but b2 (by simpa using hgg.symm)
 have b3:=(hBq.setCell (p:=⟨w.heap.size,i+n,none⟩) (.inr (Nat.le_refl _)) (.int .u64 ((0:Nat):Int))).setCell (p:=⟨w2.heap.size,i,none⟩) (.inr (Nat.le_of_lt (ae HG))) (.int .u64 (q:Int))
 have ALL:=af (And.intro hdiv (And.intro b3 (And.intro s4 s3)))
 have hl1:Hid (((rs.take i++vs++rs.drop (i+n)).set (i+n) 0).length=nx+1∧(qs.set i q).length=nx+1-n):=⟨hdiv.lr,hdiv.lq⟩
 have cq2:(wq.setCell ⟨w.heap.size,i+n,none⟩ (.int .u64 0)).cell? ⟨w2.heap.size,i,none⟩=some (.int .u64 (qs[i]?.getD 0:Nat)):=(World.cell?_setCell_other _ _ _ _ (fun e=>hgg (Addr.mk.inj e).1.symm)).trans cq
 clear hdiv b1 b2 b3 s1 s2 s3 s4 hBq hsq hwh hfin lrs
 generalize qs[i]?.getD 0=q0 at *
 have iq:(i:Int)<((nx+1-n:Nat):Int):=by omega
 go_wp2
 refine⟨⟨i,(rs.take i++vs++rs.drop (i+n)).set (i+n) 0,qs.set i q,by omega,rfl,(ae hl1).1,(ae hl1).2,ae ALL⟩,?_⟩
 simp[intOf])
 ·(
 have hM1:1≤M:=by omega
 have hMz:((M:Int) != 0)=true:=by simp;omega
 have hq1:1≤q:=((ae HJ).1.pos (by omega)).1
 have STP:Hid (∀ (vs':List Nat) (k:Nat),k≤1→vs'.length=n→(∀ x ∈ vs',x < 18446744073709551616)→vl 18446744073709551616 vs' + k * 18446744073709551616^n=vl 18446744073709551616 vs+Y→zjt D Y n vs' (q-1) (M-k)):=by
  intro vs' k h1 h2 h3 h4
  have hJ:=(ae HJ).1
  obtain⟨q',rfl⟩:∃ q',q=q' + 1:=⟨q-1,by omega⟩
  obtain⟨M',rfl⟩:∃ M',M=M' + 1:=⟨M-1,by omega⟩
  exact hJ.step vs' k h1 h2 h3 h4
 have hBq:But [] w wq:=(ae HI).2.1.trans (ae HJ).2.1.but (fun x hx=>by simp at hx;subst hx;exact .inr (Nat.le_refl _))
 have hAT:=zjs w.heap.size i (nx+1-i) vs ys (.slice (some ⟨b2,o2,none⟩) n c2) wq (ae HJ).2.2 (by omega) ((ae HY).ah hBq) (fun _=>ae HYO) (ae HJ).1.mem (ae MY) (by rw[ae HN];omega) (by omega)
 rw[hlv,ae VY] at hAT
 have HAT:=af hAT
 clear hAT hBq
 go_wp2_with fail
 refine (ae HAT).mono ?_
 rintro e w5 ⟨k,vs',rfl,hk1,hl5,hm5,hv5,hs5,hp5⟩
 have HN5:=af (And.intro (ae STP vs' k hk1 hl5 hm5 hv5) (And.intro ((ae HJ).2.1.trans hp5) hs5))
 have hkM:k≤M:=by omega
 clear STP HAT hv5 hs5 hp5 hm5 HJ
 go_wp2
 go_roundw
 case rel=>exact⟨q-1,M-k,vs',congrArg (Value.int IntKind.u64) (by omega),congrArg (Value.int IntKind.u64) (by omega),by omega,by omega,hl5,HN5⟩
 case measure=>simp[intOf];omega)))))
theorem zce (m n:Nat):(m<n∧zy m n=-1)∨(m=n∧zy m n=0)∨(n<m∧zy m n=1):=by(
 rcases Nat.lt_trichotomy m n with h | h | h
 ·exact .inl ⟨h,by simp[zy,h]⟩
 ·exact .inr (.inl ⟨h,by simp[zy,h]⟩)
 ·exact .inr (.inr ⟨h,by simp only[zy];rw[if_neg (by omega),if_neg (by omega)]⟩))
theorem u6 {m n:Nat} (h:m<n):zy m n=-1:=by simp[zy,h]
theorem zbl {m n:Nat} (h:n≤m):0≤zy m n:=by
 rcases zce m n with ⟨h1,-⟩|⟨-,h1⟩|⟨-,h1⟩ <;> omega
def qgz (X Y:Nat):Prop:=∀ (vx vy:Value) (w:World),Sl .u64 w vx (wd 18446744073709551616 X)→Sl .u64 w vy (wd 18446744073709551616 Y) →
 Calls prog 224 #[vx,vy] w fun e w'=>∃ v1 v2,e=.returned (.tuple #[v1,v2])∧Sl .u64 w' v1 (wd 18446744073709551616 (X/Y))∧Sl .u64 w' v2 (wd 18446744073709551616 (X%Y))∧But [] w w'∧(Y≤X→Own w.heap.size w' v2)
theorem zqv (X Y:Nat) (h2:2≤(wd 18446744073709551616 Y).length) (hle:Y≤X) (hl:(wd 18446744073709551616 X).length<268435456) (hs:(wd 18446744073709551616 X).length<(wd 18446744073709551616 Y).length+80∨(wd 18446744073709551616 Y).length<80):qgz X Y:=by(
 intro vx vy w hx hy
 have hlen:=av hle
 have hcmp:=ky vx vy X Y w hx hy (by omega) (by omega)
 have hc0:=zbl hle
 generalize zy X Y=r at *
 have HC:=af hcmp
 have LD:=af (fun (W:World) (h1:Sl .u64 W vx (wd 18446744073709551616 X)) (h3:Sl .u64 W vy (wd 18446744073709551616 Y))=>zjh vx vy X Y W h1 h3 h2 hlen hl)
 have HX:=af hx
 have HY:=af hy
 obtain⟨a1,c1,rfl,-,-⟩:=hx
 obtain⟨a2,c2,rfl,-,-⟩:=hy
 clear hcmp
 generalize (wd 18446744073709551616 X).length=nx at *
 generalize (wd 18446744073709551616 Y).length=ny at *
 have hr:decide (r<0)=false:=by simp;omega
 by_cases hm:nx<ny+80
 ·(
 go_enter func224,ntmps224
 go_wp2_with fail
 refine (ae HC).mono ?_
 rintro e w1 ⟨rfl,q,rfl⟩
 go_wp2_with fail
 refine (ae LD _ (by exact ae HX) (by exact ae HY)).mono ?_
 rintro e w2 ⟨v1,v2,rfl,h1,h3,h4,h5,h6⟩
 have ALL:=af (And.intro h1 (And.intro h3 (And.intro (((But.refl [] _).drewN q).trans' h4) h5)))
 clear h1 h3 h4 h5 h6 LD HC
 go_wp2
 go_ret2
 exact⟨v1,v2,rfl,(ae ALL).1,(ae ALL).2.1,(ae ALL).2.2.1,fun _=>(ae ALL).2.2.2⟩)
 ·(
 have hs2:ny<80:=by omega
 clear hs
 go_enter func224,ntmps224
 go_wp2_with fail
 refine (ae HC).mono ?_
 rintro e w1 ⟨rfl,q,rfl⟩
 go_wp2_with fail
 refine (ae LD _ (by exact ae HX) (by exact ae HY)).mono ?_
 rintro e w2 ⟨v1,v2,rfl,h1,h3,h4,h5,h6⟩
 have ALL:=af (And.intro h1 (And.intro h3 (And.intro (((But.refl [] _).drewN q).trans' h4) h5)))
 clear h1 h3 h4 h5 h6 LD HC
 go_wp2
 go_ret2
 exact⟨v1,v2,rfl,(ae ALL).1,(ae ALL).2.1,(ae ALL).2.2.1,fun _=>(ae ALL).2.2.2⟩))
def qg (Y:Nat):Nat:=(wd 18446744073709551616 Y)[(wd 18446744073709551616 Y).length-1]?.getD 0
theorem zft (Y:Nat) (h:0<Y):0<qg Y∧qg Y < 18446744073709551616∧Y<(qg Y+1) * 18446744073709551616^((wd 18446744073709551616 Y).length-1)∧qg Y * 18446744073709551616^((wd 18446744073709551616 Y).length-1)≤Y:=by(
 have hl:0<(wd 18446744073709551616 Y).length:=by rw[Nat.pos_iff_ne_zero];intro e;rw[zq (by omega)] at e;omega
 obtain⟨m,hm⟩:∃ m,(wd 18446744073709551616 Y).length=m+1:=⟨(wd 18446744073709551616 Y).length-1,by omega⟩
 have e1:=iw (wd 18446744073709551616 Y) m (by omega)
 rw[drop_one _ m hm,zuv,qy (by omega)] at e1
 have e2:=zaf (wd 18446744073709551616 Y) m (by omega) (zt (by omega) Y)
 have e3:=bt (zt (B:=18446744073709551616) (by omega) Y) (by omega:0 < 18446744073709551616) m
 unfold qg
 rw[hm,Nat.add_sub_cancel]
 generalize (wd 18446744073709551616 Y)[m]?.getD 0=t at *
 have ht:0<t:=by
  rcases Nat.eq_zero_or_pos t with h0 | h0
  ·subst h0
   have:=aj (B:=18446744073709551616) (by omega) Y m (by omega)
   omega
  ·exact h0
 rw[Nat.mul_comm] at e1
 refine⟨ht,e3,?_,by omega⟩
 rw[Nat.add_mul,Nat.one_mul];omega)
theorem ztb (Y:Nat) (h:0<Y):(wd 18446744073709551616 (Y*2^lz (qg Y))).length=(wd 18446744073709551616 Y).length:=by(
 obtain⟨h1,h2,h3,h4⟩:=zft Y h
 obtain⟨l1,l2,l3,-⟩:=zaw (qg Y) h1 h2
 have hl:0<(wd 18446744073709551616 Y).length:=by rw[Nat.pos_iff_ne_zero];intro e;rw[zq (by omega)] at e;omega
 have hp:18446744073709551616=2^(64-lz (qg Y))*2^lz (qg Y):=by rw[← Nat.pow_add,show (64-lz (qg Y))+lz (qg Y)=64 from by omega]
 have h5:(qg Y+1)*2^lz (qg Y)≤18446744073709551616:=by
  rw[hp] at l2 ⊢
  exact Nat.mul_le_mul_right _ (Nat.lt_of_mul_lt_mul_right l2)
 refine Nat.le_antisymm (aj (by omega) _ _ ?_) (av (Nat.le_mul_of_pos_right _ (Nat.pow_pos (by omega))))
 have h6:Y*2^lz (qg Y)<(qg Y+1) * 18446744073709551616^((wd 18446744073709551616 Y).length-1)*2^lz (qg Y):=Nat.mul_lt_mul_of_pos_right h3 (Nat.pow_pos (by omega))
 have h7:(qg Y+1) * 18446744073709551616^((wd 18446744073709551616 Y).length-1)*2^lz (qg Y)≤18446744073709551616 * 18446744073709551616^((wd 18446744073709551616 Y).length-1):=by
  rw[Nat.mul_right_comm];exact Nat.mul_le_mul_right _ h5
 have h8:18446744073709551616 * 18446744073709551616^((wd 18446744073709551616 Y).length-1)=18446744073709551616^(wd 18446744073709551616 Y).length:=by rw[Nat.mul_comm,← Nat.pow_succ];congr 1;omega
 omega)
theorem zpp (X s:Nat) (hs:s≤63):(wd 18446744073709551616 (X*2^s)).length≤(wd 18446744073709551616 X).length+1:=by(
 refine aj (by omega) _ _ ?_
 rw[Nat.pow_succ]
 have h1:=zek X
 have h2:2^s≤18446744073709551616:=by
  have:2^s≤2^64:=Nat.pow_le_pow_right (by omega) (by omega)
  omega
 exact Nat.lt_of_lt_of_le (Nat.mul_lt_mul_of_pos_right h1 (Nat.pow_pos (by omega))) (Nat.mul_le_mul_left _ h2))
end Go.Proofs.YtagmkkiagjmimaaGreatDoor
