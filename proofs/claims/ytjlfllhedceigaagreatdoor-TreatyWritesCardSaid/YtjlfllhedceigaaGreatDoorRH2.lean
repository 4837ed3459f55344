/- Sums and differences of words, and their -/
import Derived.Laws.MakeOwn
import Derived.Test.YtjlfllhedceigaaGreatDoorRH1
import Derived.Test.YtjlfllhedceigaaGreatDoorRPh
namespace Go.Proofs.YtjlfllhedceigaaGreatDoor
set_option linter.unusedVariables false
open Go.Proofs.Tryz
open Go.RowKit
set_option maxHeartbeats 1000000
theorem zeb (wx:World) (n:Nat) (h:n<2147483648):(Instr.makeSlice 118 (.int .i64 (n:Int)) (.int .i64 (n:Int))).run prog wx=.ok (.slice (some ⟨wx.heap.size,0,none⟩) n n) (wx.alloc (.cells (madeCells #[.int .u32 0] n) 284)):=by(
 obtain⟨ti,hi,hz,hs,hbt⟩:=zbh
 have hmk:=run_make (P:=prog) wx 118 284 ti (.int .u32 0) underlying118 hi hz .i64 .i64 (n:Int) (n:Int) (by omega) (by omega) (by rw[hbt];omega) (by omega)
 rw[hs,Int.toNat_natCast,Nat.mul_one] at hmk
 exact hmk)
theorem zhf (wx:World) (n:Nat) (h:n<1073741824):(Instr.makeSlice 118 (.int .i64 ((n:Int)+1)) (.int .i64 ((n:Int)+1))).run prog wx=.ok (.slice (some ⟨wx.heap.size,0,none⟩) (n+1) (n+1)) (wx.alloc (.cells (madeCells #[.int .u32 0] (n+1)) 284)):=zeb wx (n+1) (by omega)
theorem zpt (wx:World) (n:Nat) (h:n<1073741824):(Instr.makeSlice 118 (.int .i64 ((n:Int)+2)) (.int .i64 ((n:Int)+2))).run prog wx=.ok (.slice (some ⟨wx.heap.size,0,none⟩) (n+2) (n+2)) (wx.alloc (.cells (madeCells #[.int .u32 0] (n+2)) 284)):=zeb wx (n+2) (by omega)
theorem zdo (va vb:Value) (m n:Nat) (w:World) (ha:Sl .u32 w va (wd 4294967296 m)) (hb:Sl .u32 w vb (wd 4294967296 n)) (hla:(wd 4294967296 m).length<2147483648) (hlb:(wd 4294967296 n).length<2147483648) :
   Calls prog 209 #[va,vb] w fun e w'=>e=.returned (.int .i64 (zn m n))∧∃ q,w'=w.drewN q:=by(
 have mm:=zo (B:=4294967296) (by omega) m
 have mn:=zo (B:=4294967296) (by omega) n
 have em:=qh (B:=4294967296) (by omega) m
 have en:=qh (B:=4294967296) (by omega) n
 have lt1:=zol (B:=4294967296) (by omega) m n
 have lt2:=zol (B:=4294967296) (by omega) n m
 generalize wd 4294967296 m=xs at *
 generalize wd 4294967296 n=ys at *
 have A:=af em
 have B:=af en
 have C:=af mm
 have D:=af mn
 clear em en mm mn
 by_cases hne:xs.length=ys.length
 ·(
 rcases ha.open with ⟨rfl,a,cap,rfl⟩|⟨h0,b,off,cap,rfl,hc,hbl,hcell⟩
 ·(
 have:ys=[]:=List.length_eq_zero_iff.1 (by simpa using hne.symm)
 subst this
 obtain⟨b',cap',rfl,-,-⟩:=hb
 have e0:zn m n=0:=by
  have:=ae A;have:=ae B
  simp only[vl] at *
  simp[zn,← ae A,← ae B]
 have E:=af e0
 clear e0 lt1 lt2
 go_enter func209,ntmps209
 go_wp2
 refine wp_loop_rounds 1 ?_
 rw[rounds_succ]
 go_wp2
 go_ret
 exact⟨by rw[ae E];rfl,0,rfl⟩)
 ·(
 rcases hb.open with ⟨rfl,a,cap',rfl⟩|⟨h0',b',off',cap',rfl,hc',hbl',hcell'⟩
 ·simp at hne;simp[hne] at h0
 ·(
 clear ha hb lt1 lt2
 have hne':((xs.length:Int) != (ys.length:Int))=false:=by simp[hne]
 have N:=af hne
 clear hne
 go_enter func209,ntmps209
 go_wp2
 go_loopw [5] (fun i w'=>∃ k:Nat,k≤xs.length∧i=.int .i64 ((k:Int)-1)∧Hid (xs.drop k=ys.drop k)∧∃ q,w'=w.drewN q) (fun i _=>(intOf i+1).toNat)
 case atStart=>exact⟨xs.length,Nat.le_refl _,rfl,by show _=_;rw[List.drop_length,ae N,List.drop_length],0,rfl⟩
 case round =>(
 obtain⟨k,hk,rfl,hd,q,rfl⟩:=hrel
 by_cases hk0:k=0
 ·(
 subst hk0
 have e0:zn m n=0:=by
  have h1:=ae hd
  simp only[List.drop_zero] at h1
  have:m=n:=by rw[← ae A,← ae B,h1]
  simp[zn,this]
 have E:=af e0
 clear e0
 go_wp2
 go_ret
 exact⟨by rw[ae E];rfl,q,rfl⟩)
 ·(
 obtain⟨i,rfl⟩:∃ i,k=i+1:=⟨k-1,by omega⟩
 have hil:i<ys.length:=by rw[← ae N];omega
 have c1:=hcell i (by omega)
 have c2:=hcell' i hil
 rw[show (((i+1:Nat):Int)-1)=(i:Int) from by omega]
 clear hcell hcell'
 have P1:=af (fun h:xs[i]?.getD 0<ys[i]?.getD 0=>znj (B:=4294967296) (by omega) xs ys i (by omega) hil (ae C) (ae hd) h)
 have P2:=af (fun h:ys[i]?.getD 0<xs[i]?.getD 0=>znj (B:=4294967296) (by omega) ys xs i hil (by omega) (ae D) (ae hd).symm h)
 have P3:=af (fun h:xs[i]?.getD 0=ys[i]?.getD 0=>znc xs ys i (by omega) hil (ae hd) h)
 generalize xs[i]?.getD 0=x at *
 generalize ys[i]?.getD 0=y at *
 by_cases hxy:x=y
 ·(
 have n1:((x:Int) != (y:Int))=false:=by simp[hxy]
 have G:=af hxy
 clear hxy
 go_wp2
 go_quiet (fail)
 go_wp2
 go_roundw
 case rel=>exact⟨i,by omega,rfl,ae P3 (ae G),_,rfl⟩
 case measure=>simp[intOf])
 ·(
 have n1:((x:Int) != (y:Int))=true:=by simp;omega
 by_cases hlt:x<y
 ·(
 have e0:zn m n=-1:=by
  have:=ae P1 hlt
  rw[ae A,ae B] at this
  simp[zn,this]
 have E:=af e0
 clear e0
 go_wp2
 go_quiet (fail)
 go_wp2
 go_quiet (fail)
 go_wp2
 go_ret
 exact⟨by rw[ae E];rfl,dr2 _ _ _ _⟩)
 ·(
 have e0:zn m n=1:=by
  have:=ae P2 (by omega)
  rw[ae A,ae B] at this
  simp only[zn]
  rw[if_neg (by omega),if_neg (by omega)]
 have E:=af e0
 clear e0
 go_wp2
 go_quiet (fail)
 go_wp2
 go_quiet (fail)
 go_wp2
 go_ret
 exact⟨by rw[ae E];rfl,dr2 _ _ _ _⟩)))))))
 ·(
 obtain⟨a,cap,rfl,-,-⟩:=ha
 obtain⟨b',cap',rfl,-,-⟩:=hb
 have n1:((xs.length:Int) != (ys.length:Int))=true:=by simp;omega
 by_cases hlt:xs.length<ys.length
 ·(
 have e0:zn m n=-1:=by simp[zn,lt1 hlt]
 have E:=af e0
 clear e0 lt1 lt2
 go_enter func209,ntmps209
 go_wp2
 go_ret
 exact⟨by rw[ae E];rfl,0,rfl⟩)
 ·(
 have e0:zn m n=1:=by
  have:=lt2 (by omega)
  simp only[zn]
  rw[if_neg (by omega),if_neg (by omega)]
 have E:=af e0
 clear e0 lt1 lt2
 go_enter func209,ntmps209
 go_wp2
 go_ret
 exact⟨by rw[ae E];rfl,0,rfl⟩)))
end Go.Proofs.YtjlfllhedceigaaGreatDoor
