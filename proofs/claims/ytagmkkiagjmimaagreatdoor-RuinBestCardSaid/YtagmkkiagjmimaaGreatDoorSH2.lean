/- Sums and differences of words, and their -/
import Derived.Laws.MakeOwn
import Derived.Test.YtagmkkiagjmimaaGreatDoorSH1
import Derived.Test.YtagmkkiagjmimaaGreatDoorSShelf
namespace Go.Proofs.YtagmkkiagjmimaaGreatDoor
set_option linter.unusedVariables false
open Go.Proofs.Tryz
open Go.RowKit
set_option maxHeartbeats 2000000
set_option maxRecDepth 100000
theorem zcz (wx:World) (n:Nat) (h:n<2147483648):(Instr.makeSlice 109 (.int .i64 (n:Int)) (.int .i64 (n:Int))).run prog wx=.ok (.slice (some ⟨wx.heap.size,0,none⟩) n n) (wx.alloc (.cells (madeCells #[.int .u32 0] n) 238)):=by(
 obtain⟨ti,hi,hz,hs,hbt⟩:=zco
 have hmk:=run_make (P:=prog) wx 109 238 ti (.int .u32 0) underlying109 hi hz .i64 .i64 (n:Int) (n:Int) (by omega) (by omega) (by rw[hbt];omega) (by omega)
 rw[hs,Int.toNat_natCast,Nat.mul_one] at hmk
 exact hmk)
theorem zdx (wx:World) (n:Nat) (h:n<1073741824):(Instr.makeSlice 109 (.int .i64 ((n:Int)+1)) (.int .i64 ((n:Int)+1))).run prog wx=.ok (.slice (some ⟨wx.heap.size,0,none⟩) (n+1) (n+1)) (wx.alloc (.cells (madeCells #[.int .u32 0] (n+1)) 238)):=zcz wx (n+1) (by omega)
theorem zqi (wx:World) (n:Nat) (h:n<1073741824):(Instr.makeSlice 109 (.int .i64 ((n:Int)+2)) (.int .i64 ((n:Int)+2))).run prog wx=.ok (.slice (some ⟨wx.heap.size,0,none⟩) (n+2) (n+2)) (wx.alloc (.cells (madeCells #[.int .u32 0] (n+2)) 238)):=zcz wx (n+2) (by omega)
theorem zdl (va vb:Value) (m n:Nat) (w:World) (ha:Sl .u32 w va (wd 4294967296 m)) (hb:Sl .u32 w vb (wd 4294967296 n)) (hla:(wd 4294967296 m).length<2147483648) (hlb:(wd 4294967296 n).length<2147483648) :
   Calls prog 163 #[va,vb] w fun e w'=>e=.returned (.int .i64 (zq m n))∧∃ q,w'=w.drewN q:=by(
 have mm:=zo (B:=4294967296) (by omega) m
 have mn:=zo (B:=4294967296) (by omega) n
 have em:=qg (B:=4294967296) (by omega) m
 have en:=qg (B:=4294967296) (by omega) n
 have lt1:=zov (B:=4294967296) (by omega) m n
 have lt2:=zov (B:=4294967296) (by omega) n m
 generalize wd 4294967296 m=xs at *
 generalize wd 4294967296 n=ys at *
 have A:=af em
 have B:=af en
 have C:=af mm
 have D:=af mn
 clear em en mm mn
 by_cases hne:xs.length=ys.length
 ·(
 rcases ha.open with ⟨rfl,a,cap,rfl⟩|⟨h0,b,off,cap,rfl,hc,hbl,hcell⟩
 ·(
 have:ys=[]:=List.length_eq_zero_iff.1 (by simpa using hne.symm)
 subst this
 obtain⟨b',cap',rfl,-,-⟩:=hb
 have e0:zq m n=0:=by
  have:=ae A;have:=ae B
  simp only[vl] at *
  simp[zq,← ae A,← ae B]
 have E:=af e0
 clear e0 lt1 lt2
 go_enter func163,ntmps163
 go_wp2
 refine wp_loop_rounds 1 ?_
 rw[rounds_succ]
 go_wp2
 go_ret
 exact⟨by rw[ae E];rfl,0,rfl⟩)
 ·(
 rcases hb.open with ⟨rfl,a,cap',rfl⟩|⟨h0',b',off',cap',rfl,hc',hbl',hcell'⟩
 ·simp at hne;simp[hne] at h0
 ·(
 clear ha hb lt1 lt2
 have hne':((xs.length:Int) != (ys.length:Int))=false:=by simp[hne]
 have N:=af hne
 clear hne
 go_enter func163,ntmps163
 go_wp2
 go_loopw [5] (fun i w'=>∃ k:Nat,k≤xs.length∧i=.int .i64 ((k:Int)-1)∧Hid (xs.drop k=ys.drop k)∧∃ q,w'=w.drewN q) (fun i _=>(intOf i+1).toNat)
 case atStart=>exact⟨xs.length,Nat.le_refl _,rfl,by show _=_;rw[List.drop_length,ae N,List.drop_length],0,rfl⟩
 case round =>(
 obtain⟨k,hk,rfl,hd,q,rfl⟩:=hrel
 by_cases hk0:k=0
 ·(
 subst hk0
 have e0:zq m n=0:=by
  have h1:=ae hd
  simp only[List.drop_zero] at h1
  have:m=n:=by rw[← ae A,← ae B,h1]
  simp[zq,this]
 have E:=af e0
 clear e0
 go_wp2
 go_ret
 exact⟨by rw[ae E];rfl,q,rfl⟩)
 ·(
 obtain⟨i,rfl⟩:∃ i,k=i+1:=⟨k-1,by omega⟩
 have hil:i<ys.length:=by rw[← ae N];omega
 have c1:=hcell i (by omega)
 have c2:=hcell' i hil
 rw[show (((i+1:Nat):Int)-1)=(i:Int) from by omega]
 clear hcell hcell'
 have P1:=af (fun h:xs[i]?.getD 0<ys[i]?.getD 0=>zny (B:=4294967296) (by omega) xs ys i (by omega) hil (ae C) (ae hd) h)
 have P2:=af (fun h:ys[i]?.getD 0<xs[i]?.getD 0=>zny (B:=4294967296) (by omega) ys xs i hil (by omega) (ae D) (ae hd).symm h)
 have P3:=af (fun h:xs[i]?.getD 0=ys[i]?.getD 0=>znl xs ys i (by omega) hil (ae hd) h)
 generalize xs[i]?.getD 0=x at *
 generalize ys[i]?.getD 0=y at *
 by_cases hxy:x=y
 ·(
 have n1:((x:Int) != (y:Int))=false:=by simp[hxy]
 have G:=af hxy
 clear hxy
 go_wp2
 go_quiet (fail)
 go_wp2
 go_roundw
 case rel=>exact⟨i,by omega,rfl,ae P3 (ae G),_,rfl⟩
 case measure=>simp[intOf])
 ·(
 have n1:((x:Int) != (y:Int))=true:=by simp;omega
 by_cases hlt:x<y
 ·(
 have e0:zq m n=-1:=by
  have:=ae P1 hlt
  rw[ae A,ae B] at this
  simp[zq,this]
 have E:=af e0
 clear e0
 go_wp2
 go_quiet (fail)
 go_wp2
 go_quiet (fail)
 go_wp2
 go_ret
 exact⟨by rw[ae E];rfl,dr2 _ _ _ _⟩)
 ·(
 have e0:zq m n=1:=by
  have:=ae P2 (by omega)
  rw[ae A,ae B] at this
  simp only[zq]
  rw[if_neg (by omega),if_neg (by omega)]
 have E:=af e0
 clear e0
 go_wp2
 go_quiet (fail)
 go_wp2
 go_quiet (fail)
 go_wp2
 go_ret
 exact⟨by rw[ae E];rfl,dr2 _ _ _ _⟩)))))))
 ·(
 obtain⟨a,cap,rfl,-,-⟩:=ha
 obtain⟨b',cap',rfl,-,-⟩:=hb
 have n1:((xs.length:Int) != (ys.length:Int))=true:=by simp;omega
 by_cases hlt:xs.length<ys.length
 ·(
 have e0:zq m n=-1:=by simp[zq,lt1 hlt]
 have E:=af e0
 clear e0 lt1 lt2
 go_enter func163,ntmps163
 go_wp2
 go_ret
 exact⟨by rw[ae E];rfl,0,rfl⟩)
 ·(
 have e0:zq m n=1:=by
  have:=lt2 (by omega)
  simp only[zq]
  rw[if_neg (by omega),if_neg (by omega)]
 have E:=af e0
 clear e0 lt1 lt2
 go_enter func163,ntmps163
 go_wp2
 go_ret
 exact⟨by rw[ae E];rfl,0,rfl⟩)))
theorem zns (va vb:Value) (xs ys:List Nat) (w:World) (ha:Sl .u32 w va xs) (hb:Sl .u32 w vb ys) (mx:∀ x ∈ xs,x<4294967296) (my:∀ x ∈ ys,x<4294967296) (hle:ys.length≤xs.length) (hl:xs.length<1073741824) (u v:Value) (huv:(u=va∧v=vb)∨(ys.length<xs.length∧u=vb∧v=va)) :
   Calls prog 199 #[u,v] w fun e w'=>∃ v',e=.returned v'∧Sl .u32 w' v' (wd 4294967296 (vl 4294967296 xs+vl 4294967296 ys))∧But [] w w'∧mi w.heap.size v':=by(
 have hmk:=fun wx=>zdx wx xs.length hl
 have HCX:Hid (∀ W,But [] w W→∀ i,i<xs.length→∃ b off c,va=.slice (some ⟨b,off,none⟩) xs.length c∧W.cell? ⟨b,off+i,none⟩=some (.int .u32 (xs[i]?.getD 0:Nat))):=fun W hbw i hi=>by
  rcases (ha.ah hbw).open with ⟨e,-⟩|⟨-,b,off,c,e,-,-,h⟩
  ·rw[e] at hi;simp at hi
  ·exact⟨b,off,c,e,h i hi⟩
 have HCY:Hid (∀ W,But [] w W→∀ i,i<ys.length→∃ b off c,vb=.slice (some ⟨b,off,none⟩) ys.length c∧W.cell? ⟨b,off+i,none⟩=some (.int .u32 (ys[i]?.getD 0:Nat))):=fun W hbw i hi=>by
  rcases (hb.ah hbw).open with ⟨e,-⟩|⟨-,b,off,c,e,-,-,h⟩
  ·rw[e] at hi;simp at hi
  ·exact⟨b,off,c,e,h i hi⟩
 obtain⟨a1,c1,rfl,-,-⟩:=ha
 obtain⟨a2,c2,rfl,-,-⟩:=hb
 have MX:=af mx
 have MY:=af my
 have HLE:=af hle
 clear mx my
 rcases huv with ⟨rfl,rfl⟩|⟨hlt,rfl,rfl⟩
 all_goals(
 go_enter func199,ntmps199
 go_wp2
 go_loopw [6,7] (fun c i wr=>∃ (k cN:Nat) (rs:List Nat),k≤xs.length∧i=.int .i64 k∧c=.int .u64 cN∧cN≤1∧rs.length=xs.length+1∧Hid (zpr xs ys rs k cN∧But [] w wr∧j5 .u32 wr w.heap.size rs)) (fun _ i _=>xs.length-(intOf i).toNat)
 case atStart=>exact⟨0,0,List.replicate (xs.length+1) 0,Nat.zero_le _,rfl,rfl,by omega,by simp,zpr.start xs ys,(But.refl _ _).alloc _,j5.made _ _ _ _⟩
 case round =>(
 obtain⟨k,cN,rs,hk,rfl,rfl,hcN,hrl,HI⟩:=hrel
 rename World=>wr
 by_cases hlt':k<xs.length
 ·(
 obtain⟨b1,o1,d1,e1,cx⟩:=ae HCX wr (ae HI).2.1 k hlt'
 simp only[Value.slice.injEq] at e1
 obtain⟨rfl,-,-⟩:=e1
 have hxB:xs[k]?.getD 0<4294967296:=bt (ae MX) (by omega) k
 have hyB:ys[k]?.getD 0<4294967296:=bt (ae MY) (by omega) k
 obtain⟨cr,fr⟩:=(ae HI).2.2.row k (by omega)
 have ST:=af ((ae HI).1.step hlt' hxB hyB _ rfl)
 have HSET:=af ((ae HI).2.2.set k (by omega) ((cN+xs[k]?.getD 0+ys[k]?.getD 0)%4294967296))
 have HB:=af (ae HI).2.1
 clear HI
 by_cases hly:k<ys.length
 ·(
 obtain⟨b2,o2,d2,e2,cy⟩:=ae HCY wr (ae HB) k hly
 simp only[Value.slice.injEq] at e2
 obtain⟨rfl,-,-⟩:=e2
 generalize xs[k]?.getD 0=x at *
 generalize ys[k]?.getD 0=y at *
 generalize rs[k]?.getD 0=r at cr
 obtain⟨s,hs⟩:∃ s,s=(cN+x+y)%4294967296:=⟨_,rfl⟩
 obtain⟨c',hc'⟩:∃ c',c'=(cN+x+y)/4294967296:=⟨_,rfl⟩
 rw[← hs] at ST HSET
 rw[← hc'] at ST
 have hc1:c'≤1:=by omega
 have f1:((cN:Int)+(x:Int)+(y:Int))%4294967296=(s:Int):=by omega
 have f2:((cN:Int)+(x:Int)+(y:Int))/4294967296=(c':Int):=by omega
 clear hs hc'
 go_wp2
 refine⟨⟨k+1,c',rs.set k s,by omega,by go_num,rfl,hc1,by rw[List.length_set];exact hrl,ae ST,(ae HB).setCell (.inr (Nat.le_refl _)) _,ae HSET⟩,?_⟩
 simp[intOf];omega)
 ·(
 have hy0:ys[k]?.getD 0=0:=by rw[List.getElem?_eq_none (by omega)];rfl
 rw[hy0] at ST HSET
 generalize xs[k]?.getD 0=x at *
 generalize rs[k]?.getD 0=r at cr
 obtain⟨s,hs⟩:∃ s,s=(cN+x+0)%4294967296:=⟨_,rfl⟩
 obtain⟨c',hc'⟩:∃ c',c'=(cN+x+0)/4294967296:=⟨_,rfl⟩
 rw[← hs] at ST HSET
 rw[← hc'] at ST
 have hc1:c'≤1:=by omega
 have f1:((cN:Int)+(x:Int))%4294967296=(s:Int):=by omega
 have f2:((cN:Int)+(x:Int))/4294967296=(c':Int):=by omega
 clear hs hc' hy0 hyB
 go_wp2
 refine⟨⟨k+1,c',rs.set k s,by omega,by go_num,rfl,hc1,by rw[List.length_set];exact hrl,ae ST,(ae HB).setCell (.inr (Nat.le_refl _)) _,ae HSET⟩,?_⟩
 simp[intOf];omega))
 ·(
 have hke:k=xs.length:=by omega
 subst hke
 obtain⟨cr,fr⟩:=(ae HI).2.2.row xs.length (by omega)
 have hset:=(ae HI).2.2.set xs.length (by omega) cN
 obtain⟨fv,fm⟩:=(ae HI).1.fin (ae HLE)
 have hsl:=hset.sl (xs.length+1) (by rw[List.length_set];omega)
 rw[List.length_set,hrl] at hsl
 have TR:=af (lv _ (rs.set xs.length cN) _ hsl fm (by rw[List.length_set];omega))
 rw[fv] at TR
 have HB:=af ((ae HI).2.1.setCell (p:=⟨w.heap.size,xs.length,none⟩) (.inr (Nat.le_refl _)) (.int .u32 (cN:Int)))
 have f1:(cN:Int)%4294967296=(cN:Int):=by omega
 clear hset fv fm hsl HI
 generalize rs[xs.length]?.getD 0=r at cr
 go_wp2_with fail
 refine (ae TR).mono ?_
 rintro e w1 ⟨v1,rfl,hv1,hw,hsb⟩
 obtain rfl:=hw.symm
 clear hw
 have FIN:=af (And.intro hv1 (yh hsb (Nat.le_refl w.heap.size)))
 clear hv1 hsb
 go_wp2
 go_ret
 exact⟨v1,rfl,(ae FIN).1,ae HB,(ae FIN).2⟩))))
theorem qej (va vb:Value) (m n:Nat) (w:World) (ha:Sl .u32 w va (wd 4294967296 m)) (hb:Sl .u32 w vb (wd 4294967296 n)) (hla:(wd 4294967296 m).length<1073741824) (hlb:(wd 4294967296 n).length<1073741824) :
   Calls prog 199 #[va,vb] w fun e w'=>∃ v',e=.returned v'∧Sl .u32 w' v' (wd 4294967296 (m+n))∧But [] w w'∧mi w.heap.size v':=by(
 have em:=qg (B:=4294967296) (by omega) m
 have en:=qg (B:=4294967296) (by omega) n
 rcases Nat.lt_or_ge (wd 4294967296 m).length (wd 4294967296 n).length with h | h
 ·have:=zns vb va _ _ w hb ha (zo (by omega) n) (zo (by omega) m) (by omega) hlb va vb (.inr ⟨h,rfl,rfl⟩)
  rw[em,en,Nat.add_comm] at this
  exact this
 ·have:=zns va vb _ _ w ha hb (zo (by omega) m) (zo (by omega) n) h hla va vb (.inl ⟨rfl,rfl⟩)
  rw[em,en] at this
  exact this)
theorem zxk (va vb:Value) (xs ys:List Nat) (w:World) (ha:Sl .u32 w va xs) (hb:Sl .u32 w vb ys) (mx:∀ x ∈ xs,x<4294967296) (my:∀ x ∈ ys,x<4294967296) (hle:ys.length≤xs.length) (hl:xs.length<1073741824) (hv:vl 4294967296 ys≤vl 4294967296 xs) :
   Calls prog 200 #[va,vb] w fun e w'=>∃ v',e=.returned v'∧Sl .u32 w' v' (wd 4294967296 (vl 4294967296 xs-vl 4294967296 ys))∧But [] w w'∧mi w.heap.size v':=by(
 have hmk:=fun wx=>zcz wx xs.length (by omega)
 have HCX:Hid (∀ W,But [] w W→∀ i,i<xs.length→∃ b off c,va=.slice (some ⟨b,off,none⟩) xs.length c∧W.cell? ⟨b,off+i,none⟩=some (.int .u32 (xs[i]?.getD 0:Nat))):=fun W hbw i hi=>by
  rcases (ha.ah hbw).open with ⟨e,-⟩|⟨-,b,off,c,e,-,-,h⟩
  ·rw[e] at hi;simp at hi
  ·exact⟨b,off,c,e,h i hi⟩
 have HCY:Hid (∀ W,But [] w W→∀ i,i<ys.length→∃ b off c,vb=.slice (some ⟨b,off,none⟩) ys.length c∧W.cell? ⟨b,off+i,none⟩=some (.int .u32 (ys[i]?.getD 0:Nat))):=fun W hbw i hi=>by
  rcases (hb.ah hbw).open with ⟨e,-⟩|⟨-,b,off,c,e,-,-,h⟩
  ·rw[e] at hi;simp at hi
  ·exact⟨b,off,c,e,h i hi⟩
 obtain⟨a1,c1,rfl,-,-⟩:=ha
 obtain⟨a2,c2,rfl,-,-⟩:=hb
 have MX:=af mx
 have MY:=af my
 have HLE:=af (And.intro hle hv)
 clear mx my hv
 go_enter func200,ntmps200
 go_wp2
 go_loopw [6,7] (fun c i wr=>∃ (k cN:Nat) (rs:List Nat),k≤xs.length∧i=.int .i64 k∧c=.int .u64 cN∧cN≤1∧rs.length=xs.length∧Hid (zpo xs ys rs k cN∧But [] w wr∧j5 .u32 wr w.heap.size rs)) (fun _ i _=>xs.length-(intOf i).toNat)
 case atStart=>exact⟨0,0,List.replicate xs.length 0,Nat.zero_le _,rfl,rfl,by omega,by simp,zpo.start xs ys,(But.refl _ _).alloc _,j5.made _ _ _ _⟩
 case round =>(
 obtain⟨k,cN,rs,hk,rfl,rfl,hcN,hrl,HI⟩:=hrel
 rename World=>wr
 by_cases hlt':k<xs.length
 ·(
 obtain⟨b1,o1,d1,e1,cx⟩:=ae HCX wr (ae HI).2.1 k hlt'
 simp only[Value.slice.injEq] at e1
 obtain⟨rfl,-,-⟩:=e1
 have hxB:xs[k]?.getD 0<4294967296:=bt (ae MX) (by omega) k
 have hyB:ys[k]?.getD 0<4294967296:=bt (ae MY) (by omega) k
 obtain⟨cr,fr⟩:=(ae HI).2.2.row k (by omega)
 obtain⟨c',hc'⟩:∃ c',c'=if xs[k]?.getD 0<cN+ys[k]?.getD 0 then 1 else 0:=⟨_,rfl⟩
 obtain⟨s,hs⟩:∃ s,s=xs[k]?.getD 0+4294967296*c' - (cN+ys[k]?.getD 0):=⟨_,rfl⟩
 have hc1:c'≤1:=by rw[hc'];split <;> omega
 have hs1:s<4294967296∧s+cN+ys[k]?.getD 0=xs[k]?.getD 0+4294967296*c':=by
  rw[hs,hc'];split <;> omega
 have ST:=af ((ae HI).1.step hlt' s c' hs1.1 hc1 hs1.2)
 have HSET:=af ((ae HI).2.2.set k (by omega) s)
 have HB:=af (ae HI).2.1
 clear HI
 by_cases hly:k<ys.length
 ·(
 obtain⟨b2,o2,d2,e2,cy⟩:=ae HCY wr (ae HB) k hly
 simp only[Value.slice.injEq] at e2
 obtain⟨rfl,-,-⟩:=e2
 generalize xs[k]?.getD 0=x at *
 generalize ys[k]?.getD 0=y at *
 generalize rs[k]?.getD 0=r at cr
 obtain⟨h1,h2⟩:=hs1
 obtain⟨D,hD⟩:∃ D:Int,D=(x:Int)-(cN:Int)-(y:Int)+18446744073709551616*(c':Int):=⟨_,rfl⟩
 have g1:IntKind.u64.wrap (IntKind.u64.wrap ((x:Int)-(cN:Int))-(y:Int))=D:=by rw[IntKind.wrap_u64,IntKind.wrap_u64];rw[hc'] at hD;split at hD <;> omega
 have g2:D%4294967296=(s:Int):=by rw[hD];omega
 have g3:D/9223372036854775808=(c':Int):=by rw[hD];rw[hc'] at h2 ⊢;split <;> split at h2 <;> omega
 have d0:0≤D:=by rw[hD];omega
 clear hc' hs hD h2
 go_wp2
 refine⟨⟨k+1,c',rs.set k s,by omega,by go_num,rfl,hc1,by rw[List.length_set];exact hrl,ae ST,(ae HB).setCell (.inr (Nat.le_refl _)) _,ae HSET⟩,?_⟩
 simp[intOf];omega)
 ·(
 have hy0:ys[k]?.getD 0=0:=by rw[List.getElem?_eq_none (by omega)];rfl
 rw[hy0] at hc' hs1
 generalize xs[k]?.getD 0=x at *
 generalize rs[k]?.getD 0=r at cr
 obtain⟨h1,h2⟩:=hs1
 obtain⟨D,hD⟩:∃ D:Int,D=(x:Int)-(cN:Int)+18446744073709551616*(c':Int):=⟨_,rfl⟩
 have g1:IntKind.u64.wrap ((x:Int)-(cN:Int))=D:=by rw[IntKind.wrap_u64];rw[hc'] at hD;split at hD <;> omega
 have g2:D%4294967296=(s:Int):=by rw[hD];omega
 have g3:D/9223372036854775808=(c':Int):=by rw[hD];rw[hc'] at h2 ⊢;split <;> split at h2 <;> omega
 have d0:0≤D:=by rw[hD];omega
 clear hc' hs hD h2 hy0 hyB
 go_wp2
 refine⟨⟨k+1,c',rs.set k s,by omega,by go_num,rfl,hc1,by rw[List.length_set];exact hrl,ae ST,(ae HB).setCell (.inr (Nat.le_refl _)) _,ae HSET⟩,?_⟩
 simp[intOf];omega))
 ·(
 have hke:k=xs.length:=by omega
 subst hke
 have fv:=(ae HI).1.fin (ae HLE).1 (ae HLE).2
 have hsl:=(ae HI).2.2.sl xs.length (by omega)
 rw[hrl] at hsl
 have TR:=af (lv _ rs _ hsl (ae HI).1.mem (by omega))
 rw[fv] at TR
 have HB:=af (ae HI).2.1
 clear fv hsl HI
 go_wp2_with fail
 refine (ae TR).mono ?_
 rintro e w1 ⟨v1,rfl,hv1,hw,hsb⟩
 obtain rfl:=hw.symm
 clear hw
 have FIN:=af (And.intro hv1 (yh hsb (Nat.le_refl w.heap.size)))
 clear hv1 hsb
 go_wp2
 go_ret
 exact⟨v1,rfl,(ae FIN).1,ae HB,(ae FIN).2⟩)))
theorem zqa (va vb:Value) (m n:Nat) (w:World) (ha:Sl .u32 w va (wd 4294967296 m)) (hb:Sl .u32 w vb (wd 4294967296 n)) (hla:(wd 4294967296 m).length<1073741824) (hmn:n≤m) :
   Calls prog 200 #[va,vb] w fun e w'=>∃ v',e=.returned v'∧Sl .u32 w' v' (wd 4294967296 (m-n))∧But [] w w'∧mi w.heap.size v':=by(
 have em:=qg (B:=4294967296) (by omega) m
 have en:=qg (B:=4294967296) (by omega) n
 have hl:(wd 4294967296 n).length≤(wd 4294967296 m).length:=aj (by omega) n _ (Nat.lt_of_le_of_lt hmn (ak (by omega) m _ (Nat.le_refl _)))
 have:=zxk va vb _ _ w ha hb (zo (by omega) m) (zo (by omega) n) hl hla (by rw[em,en];exact hmn)
 rw[em,en] at this
 exact this)
end Go.Proofs.YtagmkkiagjmimaaGreatDoor
