/- A whole number is divided by a word: the -/
import Derived.Test.YtagmkkiagjmimaaGreatDoorYN18
import Derived.Test.YtagmkkiagjmimaaGreatDoorYShelf
namespace Go.Proofs.YtagmkkiagjmimaaGreatDoor
set_option linter.unusedVariables false
open Go.Proofs.Tryz
open Go.RowKit
set_option maxHeartbeats 2000000
set_option maxRecDepth 100000
theorem zrc (v:Value) (X d:Nat) (w:World) (hv:Sl .u64 w v (wd 18446744073709551616 X)) (hl:(wd 18446744073709551616 X).length<1073741824) (hd:0<d) (hdB:d < 18446744073709551616) :
   Calls prog 208 #[v,.int .u64 (d:Int)] w fun e w'=>∃ v',e=.returned (.tuple #[v',.int .u64 ((X%d:Nat):Int)])∧Sl .u64 w' v' (wd 18446744073709551616 (X/d))∧But [] w w'∧rz w.heap.size v':=by(
 have mm:=zt (B:=18446744073709551616) (by omega) X
 have em:=qy (B:=18446744073709551616) (by omega) X
 obtain⟨a,c,rfl,hc,hcell,-⟩:=hv
 generalize wd 18446744073709551616 X=xs at *
 subst em
 obtain⟨R,hR⟩:∃ R,R=vl 18446744073709551616 xs%d:=⟨_,rfl⟩
 rw[← hR]
 have HR:=af hR
 have hmk:=fun wx=>kw wx xs.length (by omega)
 have HC:=af hcell
 have MM:=af mm
 clear hcell mm hR
 go_enter func208,ntmps208
 go_wp2
 go_loopw [7,8] (fun r i wr=>∃ (k rN:Nat) (rs:List Nat),k≤xs.length∧i=.int .i64 ((k:Int)-1)∧r=.int .u64 rN∧rN<d∧rs.length=xs.length∧Hid (zfq xs rs d k rN∧But [] w wr∧Seg wr w.heap.size 0 rs)) (fun _ i _=>(intOf i+1).toNat)
 case atStart=>exact⟨xs.length,0,List.replicate xs.length 0,Nat.le_refl _,rfl,rfl,hd,by simp,zfq.start xs d hd,(But.refl _ _).alloc _,Seg.made _ _ _⟩
 case round =>(
 obtain⟨k,rN,rs,hk,rfl,rfl,hrN,hrl,HI⟩:=hrel
 rename World=>wr
 by_cases hk0:k=0
 ·(
 subst hk0
 have hsl:=(ae HI).2.2.sl xs.length (by omega)
 rw[hrl] at hsl
 have HSL:=af hsl
 have HF:=af (ae HI).1.fin
 have hln:rs.length<2147483648:=by omega
 clear hsl HC
 go_wp2_with fail
 refine (qo _ rs _ (ae HSL) (ae HI).1.mem hln).mono ?_
 rintro e w1 ⟨v1,rfl,hv1,hw,hsb⟩
 obtain rfl:=hw.symm
 clear hw
 rw[(ae HF).1] at hv1
 have HV1:=af hv1
 have HSB:=af hsb
 clear hsb
 have er:Hid (rN=R):=by show _=_;rw[ae HR];exact (ae HF).2
 clear hv1
 go_wp2
 go_ret2
 exact⟨v1,by rw[← ae er];rfl,ae HV1,(ae HI).2.1,dw (ae HSB) (Nat.le_refl _)⟩)
 ·(
 obtain⟨i,rfl⟩:∃ i,k=i+1:=⟨k-1,by omega⟩
 obtain⟨b,off,rfl,hci⟩:=ae HC i (by omega)
 have cx:=(ae HI).2.1.ag hci (by simp)
 have hxB:xs[i]?.getD 0 < 18446744073709551616:=bt (ae MM) (by omega) i
 obtain⟨cr,fr⟩:=(ae HI).2.2 i (by omega)
 rw[Nat.zero_add] at cr fr
 obtain⟨q,hq⟩:∃ q,(rN * 18446744073709551616+xs[i]?.getD 0)/d=q:=⟨_,rfl⟩
 obtain⟨r',hr'⟩:∃ r',(rN * 18446744073709551616+xs[i]?.getD 0)%d=r':=⟨_,rfl⟩
 obtain⟨hqB,hst⟩:=(ae HI).1.step (by omega) hxB q r' hq hr'
 have hr'd:r' < d:=hst.lt
 have ST:=af hst
 have DV:=af (zjq rN (xs[i]?.getD 0) d hdB hxB hrN wr q r' hq hr')
 have hset:=(ae HI).2.2.set i (by omega) q
 rw[Nat.zero_add] at hset
 have HSET:=af hset
 clear hset hst hci hq hr'
 generalize xs[i]?.getD 0=x at *
 generalize rs[i]?.getD 0=r0 at cr
 rw[show (((i+1:Nat):Int)-1)=(i:Int) from by omega]
 go_wp2_with fail
 refine (ae DV).mono ?_
 rintro e w1 ⟨rfl,n,rfl⟩
 go_wp2
 refine⟨⟨i,r',rs.set i q,by omega,rfl,rfl,hr'd,by rw[List.length_set];exact hrl,ae ST,((ae HI).2.1.drewN n).setCell (.inr (Nat.le_refl _)) _,?_⟩,?_⟩
 ·exact ae HSET
 ·simp[intOf])))
theorem zcz (w:World) (base:Nat) (v:Value) (ds:List UInt8) (hown:w.ownsRow base 5 1 v ds.length (ds.map u8v)) (a:Addr) (d:UInt8) (hc:w.cell? a=some (u8v d)) (hl:ds.length<1073741824) (hb:base≤w.heap.size) :
   ∃ v' w',(Builtin.append_ #[185,185] 185 #[v,.slice (some a) 1 1]).run prog w=.ok v' w'∧w'.ownsRow base 5 1 v' (ds++[d]).length ((ds++[d]).map u8v)∧w.grownBy w' v.ownBlock∧(v'.ownBlock=v.ownBlock∨∀ k,v'.ownBlock=some k→w.heap.size≤k):=by(
 obtain⟨i0,hi,hz0,hz1,hz2⟩:=zlm
 have hnews:∀ j u,[u8v d][j]? = some u→w.cell? (a.add j)=some u:=fun j u hj=>by
  cases j with
  | zero=>simp at hj;subst hj;rw[show a.add 0=a from by simp[Addr.add]];exact hc
  | succ j=>simp at hj
 have h1:∀ u ∈ [u8v d],u.oneCell'=true:=fun u hu=>by simp at hu;subst hu;rfl
 have hrun:=fun (base:Nat) (ho:w.ownsRow base 5 1 v ds.length (ds.map u8v)) (hb:base≤w.heap.size)=>run_append_own (P:=prog) w base 185 185 5 i0 (.int .u8 0) 1 1 underlying185 hi hz0 hz1 hz2 rfl (by decide) v ds.length (ds.map u8v) ho a 1 1 [u8v d] rfl hnews h1 (by unfold maxLen;omega) (by omega) hb
 obtain⟨v',w',hr,ho',hg',-⟩:=hrun base hown hb
 refine⟨v',w',hr,by rw[List.length_append,List.map_append];exact ho',hg',?_⟩
 rcases hown.2 with ⟨rfl,-⟩|⟨g,cap,cur,rfl,-,hgc,hnc,hcm,hcs,htake⟩
 ·(
 have hd:ds=[]:=by
  obtain⟨hx,hy|⟨g,cap,cur,e,-⟩⟩:=hown
  ·exact List.eq_nil_of_length_eq_zero hy.2
  ·simp at e
 subst hd
 obtain⟨v2,w2,hr2,ho2,-,-⟩:=hrun w.heap.size (World.ownsRow_nil _ _ _ _) (Nat.le_refl _)
 rw[hr] at hr2
 simp only[Result.ok.injEq] at hr2
 obtain⟨rfl,rfl⟩:=hr2
 exact .inr fun k hk=>(ho2.lt k hk).1)
 ·(
 by_cases hroom:ds.length+1≤cap
 ·(
 have h2:=run_append_room (P:=prog) w 185 185 5 i0 underlying185 hi g ds.length cap cur hgc a 1 1 [u8v d] (by rw[hz1];rfl) hnews h1 hroom (by rw[hz1,hcs];simp;omega)
 rw[hr] at h2
 simp only[Result.ok.injEq] at h2
 rw[h2.1]
 exact .inl rfl)
 ·(
 have h2:=run_append_grow (P:=prog) w 185 185 5 i0 (.int .u8 0) underlying185 hi hz0 ⟨g,0,none⟩ ds.length cap (ds.map u8v) (by rw[hz1];simp) (hown.cells rfl) a 1 1 [u8v d] (by rw[hz1];rfl) hnews (by omega) (by omega) (growslice_fits (by omega) (by rw[hz2];omega))
 rw[hr] at h2
 simp only[Result.ok.injEq] at h2
 rw[h2.1]
 refine .inr fun k hk=>?_
 simp only[Value.ownBlock,Option.some.injEq] at hk
 omega)))
def qgx (vb vx:Value):Prop:=∀ k,vb.ownBlock=some k→∀ b off n c,vx=.slice (some ⟨b,off,none⟩) n c→b≠k
theorem qgx.grow {w w':World} {vb vb' vx:Value} {xs:List Nat} {o:Obj} (h:qgx vb vx) (hs:Sl .u64 w vx xs) (h0:0<xs.length) (hg:(w.alloc o).grownBy w' vb.ownBlock) (hb:vb'.ownBlock=vb.ownBlock∨∀ k,vb'.ownBlock=some k→(w.alloc o).heap.size≤k):Sl .u64 w' vx xs∧qgx vb' vx:=by(
 constructor
 ·have h1:=hs.ah ((But.refl [] w).alloc o)
  cases hr:vb.ownBlock with
  | none=>rw[hr] at hg;exact h1.ah (uy hg)
  | some g=>rw[hr] at hg;exact h1.but (zge hg) (fun b off cap n e=>by have:=h g hr b off n cap e;simp;omega)
 ·(
 intro k hk b off n c e
 rcases hb with hb | hb
 ·rw[hb] at hk;exact h k hk b off n c e
 ·have h1:=hb k hk
  have h2:=hs.lt h0 b off n c e
  simp at h1
  omega))
theorem zmg {w:World} {g:Nat} {es:List UInt8} (h:Row .u8 w g (es.map UInt8.toNat)):∀ j u,(es.map u8v)[j]? = some u→w.cell? ((⟨g,0,none⟩:Addr).add j)=some u:=fun j u hj=>by
 rw[List.getElem?_map] at hj
 rcases Nat.lt_or_ge j es.length with hl | hl
 ·rw[List.getElem?_eq_getElem hl] at hj
  simp only[Option.map_some,Option.some.injEq] at hj
  have h1:=(h j (by rw[List.length_map];exact hl)).1
  rw[List.getElem?_map,List.getElem?_eq_getElem hl] at h1
  have e:(⟨g,0,none⟩:Addr).add j=⟨g,j,none⟩:=by by_cases h:j=0 <;> simp[Addr.add,h]
  rw[e,h1,← hj]
  rfl
 ·rw[List.getElem?_eq_none hl] at hj
  simp at hj
theorem qbx {q:Nat} (h:1<(wd 18446744073709551616 q).length):10000000000000000000≤q:=by(
 rcases Nat.lt_or_ge q 18446744073709551616 with h1 | h1
 ·have:=aj (B:=18446744073709551616) (by omega) q 1 (by rw[Nat.pow_one];exact h1)
  omega
 ·omega)
end Go.Proofs.YtagmkkiagjmimaaGreatDoor
