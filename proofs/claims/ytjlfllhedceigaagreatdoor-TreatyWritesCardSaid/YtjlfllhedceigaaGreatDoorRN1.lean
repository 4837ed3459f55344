/- Whole numbers of 64-bit words: noughts c -/
import Derived.Test.YtjlfllhedceigaaGreatDoorProg
import Derived.Deep.QuietTactic
import Derived.BigQuiet
import Derived.Outline
import Derived.Shelf.Spec.BitsCarry
import Derived.Test.YtjlfllhedceigaaGreatDoorRBase
namespace Go.Proofs.YtjlfllhedceigaaGreatDoor
set_option linter.unusedVariables false
open Go.Proofs.Tryz
open Go.RowKit
set_option maxHeartbeats 1000000
theorem qa (v:Value) (xs:List Nat) (w:World) (hv:Sl .u64 w v xs) (hm:∀ x ∈ xs,x<18446744073709551616) (hl:xs.length<2147483648) :
   Calls prog 248 #[v] w fun e w'=>∃ v',e=.returned v'∧Sl .u64 w v' (wd 18446744073709551616 (vl 18446744073709551616 xs))∧w'=w∧zbm v v':=by(
 have nilBase:∀ v,zbm v (.slice none 0 0):=fun v b off n c e=>by simp at e
 rcases hv.open with ⟨rfl,a,cap,rfl⟩|⟨h0,b,off,cap,rfl,hc,hb,hcell⟩
 ·(
 go_enter func248,ntmps248
 go_wp2
 refine wp_loop_rounds 1 ?_
 rw[rounds_succ]
 go_wp2
 go_ret
 exact⟨_,rfl,by simp only[vl,zk];exact Sl.nil _ _,rfl,nilBase _⟩)
 ·(
 have NB:=af nilBase
 have HI:=af (hv.ints h0)
 clear nilBase
 go_enter func248,ntmps248
 go_wp2
 go_loop [3] (fun i=>∃ n:Nat,n≤xs.length∧i=.int .i64 n∧Hid (vl 18446744073709551616 (xs.take n)=vl 18446744073709551616 xs)) (fun i=>(intOf i).toNat)
 case atStart=>exact⟨xs.length,Nat.le_refl _,rfl,by show _=_;simp⟩
 case round =>(
 obtain⟨n,hn,rfl,hq⟩:=hrel
 by_cases hp:n=0
 ·(
 subst hp
 go_wp2
 go_ret
 refine⟨_,rfl,?_,rfl,ae NB _⟩
 rw[zen (by omega) xs 0 hn hq.out hm (.inl rfl),List.take_zero]
 exact Sl.nil _ _)
 ·(
 have hcn:=hcell (n-1) (by omega)
 have n0:((n:Int)==0)=false:=by simp;exact hp
 by_cases hz:xs[n-1]?.getD 0=0
 ·(
 go_wp2
 refine⟨⟨n-1,by omega,by rw[Int.ofNat_sub (by omega)];rfl,?_⟩,by simp[intOf];omega⟩
 show _=_
 rw[← hq.out]
 obtain⟨k,rfl⟩:∃ k,n=k+1:=⟨n-1,by omega⟩
 rw[Nat.add_sub_cancel] at hz ⊢
 rw[zad xs k (by omega),hz,ig])
 ·(
 go_wp2
 go_ret
 refine⟨_,rfl,?_,rfl,zeu _ _ _ _ _⟩
 rw[zen (by omega) xs n hn hq.out hm (.inr hz)]
 have hl':(xs.take n).length=n:=by simp;omega
 have h:=Sl.mk (k:=.u64) (w:=w) (xs:=xs.take n) b off n (by omega) (fun i hi=>by rw[zgd xs n i (by omega)];exact hcell i (by omega)) (fun _=>ae HI)
 rw[hl'] at h
 exact h)))))
theorem zfr (x y:Nat) (w:World) (r:Int) (hr:Hid (r=zn x y)) :
   Calls prog 189 #[.int .u64 (x:Int),.int .u64 (y:Int)] w fun e w'=>e=.returned (.int .i64 r)∧w'=w:=by(
 rcases Nat.lt_trichotomy x y with h | h | h
 ·(
 have e:Hid (r=-1):=by show _=_;rw[ae hr,zn,if_pos h]
 clear hr
 go_enter func189,ntmps189
 go_wp2
 go_ret
 exact⟨by rw[ae e];rfl,rfl⟩)
 ·(
 subst h
 have e:Hid (r=0):=by show _=_;rw[ae hr,zn,if_neg (by omega),if_pos rfl]
 clear hr
 go_enter func189,ntmps189
 go_wp2
 go_ret
 exact⟨by rw[ae e];rfl,rfl⟩)
 ·(
 have e:Hid (r=1):=by show _=_;rw[ae hr,zn,if_neg (by omega),if_neg (by omega)]
 clear hr
 have h':¬ x<y:=by omega
 go_enter func189,ntmps189
 go_wp2
 go_ret
 exact⟨by rw[ae e];rfl,rfl⟩))
theorem zrc (x y:Nat) (w:World) (r:Int) (hr:Hid (r=zn x y)) :
   Calls prog 105 #[.int .i64 (x:Int),.int .i64 (y:Int)] w fun e w'=>e=.returned (.int .i64 r)∧w'=w:=by(
 rcases Nat.lt_trichotomy x y with h | h | h
 ·(
 have e:Hid (r=-1):=by show _=_;rw[ae hr,zn,if_pos h]
 clear hr
 go_enter func105,ntmps105
 go_wp2
 go_ret
 exact⟨by rw[ae e];rfl,rfl⟩)
 ·(
 subst h
 have e:Hid (r=0):=by show _=_;rw[ae hr,zn,if_neg (by omega),if_pos rfl]
 clear hr
 go_enter func105,ntmps105
 go_wp2
 go_ret
 exact⟨by rw[ae e];rfl,rfl⟩)
 ·(
 have e:Hid (r=1):=by show _=_;rw[ae hr,zn,if_neg (by omega),if_neg (by omega)]
 clear hr
 have h':¬ x<y:=by omega
 go_enter func105,ntmps105
 go_wp2
 go_ret
 exact⟨by rw[ae e];rfl,rfl⟩))
theorem wz (va vb:Value) (m n:Nat) (w:World) (ha:Sl .u64 w va (wd 18446744073709551616 m)) (hb:Sl .u64 w vb (wd 18446744073709551616 n)) (hla:(wd 18446744073709551616 m).length<2147483648) (hlb:(wd 18446744073709551616 n).length<2147483648) :
   Calls prog 200 #[va,vb] w fun e w'=>e=.returned (.int .i64 (zn m n))∧∃ q,w'=w.drewN q:=by(
 have mm:=zo (B:=18446744073709551616) (by omega) m
 have mn:=zo (B:=18446744073709551616) (by omega) n
 have em:=qh (B:=18446744073709551616) (by omega) m
 have en:=qh (B:=18446744073709551616) (by omega) n
 have lt1:=zol (B:=18446744073709551616) (by omega) m n
 have lt2:=zol (B:=18446744073709551616) (by omega) n m
 generalize wd 18446744073709551616 m=xs at *
 generalize wd 18446744073709551616 n=ys at *
 have A:=af em
 have B:=af en
 have C:=af mm
 have D:=af mn
 clear em en mm mn
 by_cases hne:xs.length=ys.length
 ·(
 rcases ha.open with ⟨rfl,a,cap,rfl⟩|⟨h0,b,off,cap,rfl,hc,hbl,hcell⟩
 ·(
 have:ys=[]:=List.length_eq_zero_iff.1 (by simpa using hne.symm)
 subst this
 obtain⟨b',cap',rfl,-,-⟩:=hb
 have e0:zn m n=0:=by
  have:=ae A;have:=ae B
  simp only[vl] at *
  simp[zn,← ae A,← ae B]
 have E:=af e0
 clear e0 lt1 lt2
 go_enter func200,ntmps200
 go_wp2
 refine wp_loop_rounds 1 ?_
 rw[rounds_succ]
 go_wp2
 go_ret
 exact⟨by rw[ae E];rfl,0,rfl⟩)
 ·(
 rcases hb.open with ⟨rfl,a,cap',rfl⟩|⟨h0',b',off',cap',rfl,hc',hbl',hcell'⟩
 ·simp at hne;simp[hne] at h0
 ·(
 clear ha hb lt1 lt2
 have hne':((xs.length:Int) != (ys.length:Int))=false:=by simp[hne]
 have N:=af hne
 clear hne
 go_enter func200,ntmps200
 go_wp2
 go_loopw [5] (fun i w'=>∃ k:Nat,k≤xs.length∧i=.int .i64 ((k:Int)-1)∧Hid (xs.drop k=ys.drop k)∧∃ q,w'=w.drewN q) (fun i _=>(intOf i+1).toNat)
 case atStart=>exact⟨xs.length,Nat.le_refl _,rfl,by show _=_;rw[List.drop_length,ae N,List.drop_length],0,rfl⟩
 case round =>(
 obtain⟨k,hk,rfl,hd,q,rfl⟩:=hrel
 by_cases hk0:k=0
 ·(
 subst hk0
 have e0:zn m n=0:=by
  have h1:=ae hd
  simp only[List.drop_zero] at h1
  have:m=n:=by rw[← ae A,← ae B,h1]
  simp[zn,this]
 have E:=af e0
 clear e0
 go_wp2
 go_ret
 exact⟨by rw[ae E];rfl,q,rfl⟩)
 ·(
 obtain⟨i,rfl⟩:∃ i,k=i+1:=⟨k-1,by omega⟩
 have hil:i<ys.length:=by rw[← ae N];omega
 have c1:=hcell i (by omega)
 have c2:=hcell' i hil
 rw[show (((i+1:Nat):Int)-1)=(i:Int) from by omega]
 clear hcell hcell'
 have P1:=af (fun h:xs[i]?.getD 0<ys[i]?.getD 0=>znj (B:=18446744073709551616) (by omega) xs ys i (by omega) hil (ae C) (ae hd) h)
 have P2:=af (fun h:ys[i]?.getD 0<xs[i]?.getD 0=>znj (B:=18446744073709551616) (by omega) ys xs i hil (by omega) (ae D) (ae hd).symm h)
 have P3:=af (fun h:xs[i]?.getD 0=ys[i]?.getD 0=>znc xs ys i (by omega) hil (ae hd) h)
 generalize xs[i]?.getD 0=x at *
 generalize ys[i]?.getD 0=y at *
 by_cases hxy:x=y
 ·(
 have n1:((x:Int) != (y:Int))=false:=by simp[hxy]
 have G:=af hxy
 clear hxy
 go_wp2
 go_quiet (fail)
 go_wp2
 go_roundw
 case rel=>exact⟨i,by omega,rfl,ae P3 (ae G),_,rfl⟩
 case measure=>simp[intOf])
 ·(
 have n1:((x:Int) != (y:Int))=true:=by simp;omega
 by_cases hlt:x<y
 ·(
 have e0:zn m n=-1:=by
  have:=ae P1 hlt
  rw[ae A,ae B] at this
  simp[zn,this]
 have E:=af e0
 clear e0
 obtain⟨r,hr0⟩:∃ r,r=zn m n:=⟨_,rfl⟩
 have HM:=af hr0
 have HR:Hid (r=zn x y):=by show _=_;rw[hr0,ae E,zn];rw[if_pos hlt]
 clear P1 P2 P3 hr0
 go_wp2
 go_quiet (fail)
 go_wp2
 obtain⟨W,hW⟩:∃ W,W=(w.drewN q).drewN nq:=⟨_,rfl⟩
 have k1:W.cell? ⟨b,off+i,none⟩=some (.int .u64 (x:Int)):=by rw[hW];exact c1
 have k2:W.cell? ⟨b',off' + i,none⟩=some (.int .u64 (y:Int)):=by rw[hW];exact c2
 rw[← hW]
 have HW:=af hW
 clear hW
 go_quiet ((go_at_call 189;exact Calls.quiet_of_same (zfr x y _ r HR)))
 go_wp2
 go_ret
 exact⟨by rw[← ae HM];rfl,by rw[ae HW];exact dr2 _ _ _ _⟩)
 ·(
 have e0:zn m n=1:=by
  have:=ae P2 (by omega)
  rw[ae A,ae B] at this
  simp only[zn]
  rw[if_neg (by omega),if_neg (by omega)]
 have E:=af e0
 clear e0
 obtain⟨r,hr0⟩:∃ r,r=zn m n:=⟨_,rfl⟩
 have HM:=af hr0
 have HR:Hid (r=zn x y):=by show _=_;rw[hr0,ae E,zn];rw[if_neg hlt,if_neg hxy]
 clear P1 P2 P3 hr0
 go_wp2
 go_quiet (fail)
 go_wp2
 obtain⟨W,hW⟩:∃ W,W=(w.drewN q).drewN nq:=⟨_,rfl⟩
 have k1:W.cell? ⟨b,off+i,none⟩=some (.int .u64 (x:Int)):=by rw[hW];exact c1
 have k2:W.cell? ⟨b',off' + i,none⟩=some (.int .u64 (y:Int)):=by rw[hW];exact c2
 rw[← hW]
 have HW:=af hW
 clear hW
 go_quiet ((go_at_call 189;exact Calls.quiet_of_same (zfr x y _ r HR)))
 go_wp2
 go_ret
 exact⟨by rw[← ae HM];rfl,by rw[ae HW];exact dr2 _ _ _ _⟩)))))))
 ·(
 obtain⟨a,cap,rfl,-,-⟩:=ha
 obtain⟨b',cap',rfl,-,-⟩:=hb
 have n1:((xs.length:Int) != (ys.length:Int))=true:=by simp;omega
 by_cases hlt:xs.length<ys.length
 ·(
 have e0:zn m n=-1:=by simp[zn,lt1 hlt]
 have E:=af e0
 clear e0 lt1 lt2
 obtain⟨r,hr0⟩:∃ r,r=zn m n:=⟨_,rfl⟩
 have HM:=af hr0
 have HR:Hid (r=zn xs.length ys.length):=by show _=_;rw[hr0,ae E,zn];rw[if_pos hlt]
 clear hr0
 go_enter func200,ntmps200
 go_wp2_with fail
 refine (zrc xs.length ys.length _ r HR).mono ?_
 rintro e w1 ⟨rfl,hw⟩
 obtain rfl:=hw.symm
 go_wp2
 go_ret
 exact⟨by rw[← ae HM];rfl,0,rfl⟩)
 ·(
 have e0:zn m n=1:=by
  have:=lt2 (by omega)
  simp only[zn]
  rw[if_neg (by omega),if_neg (by omega)]
 have E:=af e0
 clear e0 lt1 lt2
 obtain⟨r,hr0⟩:∃ r,r=zn m n:=⟨_,rfl⟩
 have HM:=af hr0
 have HR:Hid (r=zn xs.length ys.length):=by show _=_;rw[hr0,ae E,zn];rw[if_neg hlt,if_neg hne]
 clear hr0
 go_enter func200,ntmps200
 go_wp2_with fail
 refine (zrc xs.length ys.length _ r HR).mono ?_
 rintro e w1 ⟨rfl,hw⟩
 obtain rfl:=hw.symm
 go_wp2
 go_ret
 exact⟨by rw[← ae HM];rfl,0,rfl⟩)))
end Go.Proofs.YtjlfllhedceigaaGreatDoor
