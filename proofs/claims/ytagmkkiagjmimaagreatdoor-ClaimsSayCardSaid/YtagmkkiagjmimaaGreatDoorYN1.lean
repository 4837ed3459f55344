/- Whole numbers of 64-bit words: noughts c -/
import Derived.Test.YtagmkkiagjmimaaGreatDoorProg
import Derived.Deep.QuietTactic
import Derived.BigQuiet
import Derived.Outline
import Derived.Shelf.Spec.BitsCarry
import Derived.Test.YtagmkkiagjmimaaGreatDoorYBase
namespace Go.Proofs.YtagmkkiagjmimaaGreatDoor
set_option linter.unusedVariables false
open Go.Proofs.Tryz
open Go.RowKit
set_option maxHeartbeats 1000000
theorem qo (v:Value) (xs:List Nat) (w:World) (hv:Sl .u64 w v xs) (hm:∀ x ∈ xs,x<18446744073709551616) (hl:xs.length<2147483648) :
   Calls prog 217 #[v] w fun e w'=>∃ v',e=.returned v'∧Sl .u64 w v' (wd 18446744073709551616 (vl 18446744073709551616 xs))∧w'=w∧zch v v':=by(
 have nilBase:∀ v,zch v (.slice none 0 0):=fun v b off n c e=>by simp at e
 rcases hv.open with ⟨rfl,a,cap,rfl⟩|⟨h0,b,off,cap,rfl,hc,hb,hcell⟩
 ·(
 go_enter func217,ntmps217
 go_wp2
 refine wp_loop_rounds 1 ?_
 rw[rounds_succ]
 go_wp2
 go_ret
 exact⟨_,rfl,by simp only[vl,zo];exact Sl.nil _ _,rfl,nilBase _⟩)
 ·(
 have NB:=af nilBase
 have HI:=af (hv.ints h0)
 clear nilBase
 go_enter func217,ntmps217
 go_wp2
 go_loop [3] (fun i=>∃ n:Nat,n≤xs.length∧i=.int .i64 n∧Hid (vl 18446744073709551616 (xs.take n)=vl 18446744073709551616 xs)) (fun i=>(intOf i).toNat)
 case atStart=>exact⟨xs.length,Nat.le_refl _,rfl,by show _=_;simp⟩
 case round =>(
 obtain⟨n,hn,rfl,hq⟩:=hrel
 by_cases hp:n=0
 ·(
 subst hp
 go_wp2
 go_ret
 refine⟨_,rfl,?_,rfl,ae NB _⟩
 rw[zha (by omega) xs 0 hn hq.out hm (.inl rfl),List.take_zero]
 exact Sl.nil _ _)
 ·(
 have hcn:=hcell (n-1) (by omega)
 have n0:((n:Int)==0)=false:=by simp;exact hp
 by_cases hz:xs[n-1]?.getD 0=0
 ·(
 go_wp2
 refine⟨⟨n-1,by omega,by rw[Int.ofNat_sub (by omega)];rfl,?_⟩,by simp[intOf];omega⟩
 show _=_
 rw[← hq.out]
 obtain⟨k,rfl⟩:∃ k,n=k+1:=⟨n-1,by omega⟩
 rw[Nat.add_sub_cancel] at hz ⊢
 rw[uh xs k (by omega),hz,sw])
 ·(
 go_wp2
 go_ret
 refine⟨_,rfl,?_,rfl,zhd _ _ _ _ _⟩
 rw[zha (by omega) xs n hn hq.out hm (.inr hz)]
 have hl':(xs.take n).length=n:=by simp;omega
 have h:=Sl.mk (k:=.u64) (w:=w) (xs:=xs.take n) b off n (by omega) (fun i hi=>by rw[zir xs n i (by omega)];exact hcell i (by omega)) (fun _=>ae HI)
 rw[hl'] at h
 exact h)))))
theorem zif (x y:Nat) (w:World) (r:Int) (hr:Hid (r=zy x y)) :
   Calls prog 180 #[.int .u64 (x:Int),.int .u64 (y:Int)] w fun e w'=>e=.returned (.int .i64 r)∧w'=w:=by(
 rcases Nat.lt_trichotomy x y with h | h | h
 ·(
 have e:Hid (r=-1):=by show _=_;rw[ae hr,zy,if_pos h]
 clear hr
 go_enter func180,ntmps180
 go_wp2
 go_ret
 exact⟨by rw[ae e];rfl,rfl⟩)
 ·(
 subst h
 have e:Hid (r=0):=by show _=_;rw[ae hr,zy,if_neg (by omega),if_pos rfl]
 clear hr
 go_enter func180,ntmps180
 go_wp2
 go_ret
 exact⟨by rw[ae e];rfl,rfl⟩)
 ·(
 have e:Hid (r=1):=by show _=_;rw[ae hr,zy,if_neg (by omega),if_neg (by omega)]
 clear hr
 have h':¬ x<y:=by omega
 go_enter func180,ntmps180
 go_wp2
 go_ret
 exact⟨by rw[ae e];rfl,rfl⟩))
theorem zug (x y:Nat) (w:World) (r:Int) (hr:Hid (r=zy x y)) :
   Calls prog 127 #[.int .i64 (x:Int),.int .i64 (y:Int)] w fun e w'=>e=.returned (.int .i64 r)∧w'=w:=by(
 rcases Nat.lt_trichotomy x y with h | h | h
 ·(
 have e:Hid (r=-1):=by show _=_;rw[ae hr,zy,if_pos h]
 clear hr
 go_enter func127,ntmps127
 go_wp2
 go_ret
 exact⟨by rw[ae e];rfl,rfl⟩)
 ·(
 subst h
 have e:Hid (r=0):=by show _=_;rw[ae hr,zy,if_neg (by omega),if_pos rfl]
 clear hr
 go_enter func127,ntmps127
 go_wp2
 go_ret
 exact⟨by rw[ae e];rfl,rfl⟩)
 ·(
 have e:Hid (r=1):=by show _=_;rw[ae hr,zy,if_neg (by omega),if_neg (by omega)]
 clear hr
 have h':¬ x<y:=by omega
 go_enter func127,ntmps127
 go_wp2
 go_ret
 exact⟨by rw[ae e];rfl,rfl⟩))
theorem ky (va vb:Value) (m n:Nat) (w:World) (ha:Sl .u64 w va (wd 18446744073709551616 m)) (hb:Sl .u64 w vb (wd 18446744073709551616 n)) (hla:(wd 18446744073709551616 m).length<2147483648) (hlb:(wd 18446744073709551616 n).length<2147483648) :
   Calls prog 191 #[va,vb] w fun e w'=>e=.returned (.int .i64 (zy m n))∧∃ q,w'=w.drewN q:=by(
 have mm:=zt (B:=18446744073709551616) (by omega) m
 have mn:=zt (B:=18446744073709551616) (by omega) n
 have em:=qy (B:=18446744073709551616) (by omega) m
 have en:=qy (B:=18446744073709551616) (by omega) n
 have lt1:=zqm (B:=18446744073709551616) (by omega) m n
 have lt2:=zqm (B:=18446744073709551616) (by omega) n m
 generalize wd 18446744073709551616 m=xs at *
 generalize wd 18446744073709551616 n=ys at *
 have A:=af em
 have B:=af en
 have C:=af mm
 have D:=af mn
 clear em en mm mn
 by_cases hne:xs.length=ys.length
 ·(
 rcases ha.open with ⟨rfl,a,cap,rfl⟩|⟨h0,b,off,cap,rfl,hc,hbl,hcell⟩
 ·(
 have:ys=[]:=List.length_eq_zero_iff.1 (by simpa using hne.symm)
 subst this
 obtain⟨b',cap',rfl,-,-⟩:=hb
 have e0:zy m n=0:=by
  have:=ae A;have:=ae B
  simp only[vl] at *
  simp[zy,← ae A,← ae B]
 have E:=af e0
 clear e0 lt1 lt2
 go_enter func191,ntmps191
 go_wp2
 refine wp_loop_rounds 1 ?_
 rw[rounds_succ]
 go_wp2
 go_ret
 exact⟨by rw[ae E];rfl,0,rfl⟩)
 ·(
 rcases hb.open with ⟨rfl,a,cap',rfl⟩|⟨h0',b',off',cap',rfl,hc',hbl',hcell'⟩
 ·simp at hne;simp[hne] at h0
 ·(
 clear ha hb lt1 lt2
 have hne':((xs.length:Int) != (ys.length:Int))=false:=by simp[hne]
 have N:=af hne
 clear hne
 go_enter func191,ntmps191
 go_wp2
 go_loopw [5] (fun i w'=>∃ k:Nat,k≤xs.length∧i=.int .i64 ((k:Int)-1)∧Hid (xs.drop k=ys.drop k)∧∃ q,w'=w.drewN q) (fun i _=>(intOf i+1).toNat)
 case atStart=>exact⟨xs.length,Nat.le_refl _,rfl,by show _=_;rw[List.drop_length,ae N,List.drop_length],0,rfl⟩
 case round =>(
 obtain⟨k,hk,rfl,hd,q,rfl⟩:=hrel
 by_cases hk0:k=0
 ·(
 subst hk0
 have e0:zy m n=0:=by
  have h1:=ae hd
  simp only[List.drop_zero] at h1
  have:m=n:=by rw[← ae A,← ae B,h1]
  simp[zy,this]
 have E:=af e0
 clear e0
 go_wp2
 go_ret
 exact⟨by rw[ae E];rfl,q,rfl⟩)
 ·(
 obtain⟨i,rfl⟩:∃ i,k=i+1:=⟨k-1,by omega⟩
 have hil:i<ys.length:=by rw[← ae N];omega
 have c1:=hcell i (by omega)
 have c2:=hcell' i hil
 rw[show (((i+1:Nat):Int)-1)=(i:Int) from by omega]
 clear hcell hcell'
 have P1:=af (fun h:xs[i]?.getD 0<ys[i]?.getD 0=>zpl (B:=18446744073709551616) (by omega) xs ys i (by omega) hil (ae C) (ae hd) h)
 have P2:=af (fun h:ys[i]?.getD 0<xs[i]?.getD 0=>zpl (B:=18446744073709551616) (by omega) ys xs i hil (by omega) (ae D) (ae hd).symm h)
 have P3:=af (fun h:xs[i]?.getD 0=ys[i]?.getD 0=>zpb xs ys i (by omega) hil (ae hd) h)
 generalize xs[i]?.getD 0=x at *
 generalize ys[i]?.getD 0=y at *
 by_cases hxy:x=y
 ·(
 have n1:((x:Int) != (y:Int))=false:=by simp[hxy]
 have G:=af hxy
 clear hxy
 go_wp2
 go_quiet (fail)
 go_wp2
 go_roundw
 case rel=>exact⟨i,by omega,rfl,ae P3 (ae G),_,rfl⟩
 case measure=>simp[intOf])
 ·(
 have n1:((x:Int) != (y:Int))=true:=by simp;omega
 by_cases hlt:x<y
 ·(
 have e0:zy m n=-1:=by
  have:=ae P1 hlt
  rw[ae A,ae B] at this
  simp[zy,this]
 have E:=af e0
 clear e0
 obtain⟨r,hr0⟩:∃ r,r=zy m n:=⟨_,rfl⟩
 have HM:=af hr0
 have HR:Hid (r=zy x y):=by show _=_;rw[hr0,ae E,zy];rw[if_pos hlt]
 clear P1 P2 P3 hr0
 go_wp2
 go_quiet (fail)
 go_wp2
 obtain⟨W,hW⟩:∃ W,W=(w.drewN q).drewN nq:=⟨_,rfl⟩
 have k1:W.cell? ⟨b,off+i,none⟩=some (.int .u64 (x:Int)):=by rw[hW];exact c1
 have k2:W.cell? ⟨b',off' + i,none⟩=some (.int .u64 (y:Int)):=by rw[hW];exact c2
 rw[← hW]
 have HW:=af hW
 clear hW
 go_quiet ((go_at_call 180;exact Calls.quiet_of_same (zif x y _ r HR)))
 go_wp2
 go_ret
 exact⟨by rw[← ae HM];rfl,by rw[ae HW];exact dr2 _ _ _ _⟩)
 ·(
 have e0:zy m n=1:=by
  have:=ae P2 (by omega)
  rw[ae A,ae B] at this
  simp only[zy]
  rw[if_neg (by omega),if_neg (by omega)]
 have E:=af e0
 clear e0
 obtain⟨r,hr0⟩:∃ r,r=zy m n:=⟨_,rfl⟩
 have HM:=af hr0
 have HR:Hid (r=zy x y):=by show _=_;rw[hr0,ae E,zy];rw[if_neg hlt,if_neg hxy]
 clear P1 P2 P3 hr0
 go_wp2
 go_quiet (fail)
 go_wp2
 obtain⟨W,hW⟩:∃ W,W=(w.drewN q).drewN nq:=⟨_,rfl⟩
 have k1:W.cell? ⟨b,off+i,none⟩=some (.int .u64 (x:Int)):=by rw[hW];exact c1
 have k2:W.cell? ⟨b',off' + i,none⟩=some (.int .u64 (y:Int)):=by rw[hW];exact c2
 rw[← hW]
 have HW:=af hW
 clear hW
 go_quiet ((go_at_call 180;exact Calls.quiet_of_same (zif x y _ r HR)))
 go_wp2
 go_ret
 exact⟨by rw[← ae HM];rfl,by rw[ae HW];exact dr2 _ _ _ _⟩)))))))
 ·(
 obtain⟨a,cap,rfl,-,-⟩:=ha
 obtain⟨b',cap',rfl,-,-⟩:=hb
 have n1:((xs.length:Int) != (ys.length:Int))=true:=by simp;omega
 by_cases hlt:xs.length<ys.length
 ·(
 have e0:zy m n=-1:=by simp[zy,lt1 hlt]
 have E:=af e0
 clear e0 lt1 lt2
 obtain⟨r,hr0⟩:∃ r,r=zy m n:=⟨_,rfl⟩
 have HM:=af hr0
 have HR:Hid (r=zy xs.length ys.length):=by show _=_;rw[hr0,ae E,zy];rw[if_pos hlt]
 clear hr0
 go_enter func191,ntmps191
 go_wp2_with fail
 refine (zug xs.length ys.length _ r HR).mono ?_
 rintro e w1 ⟨rfl,hw⟩
 obtain rfl:=hw.symm
 go_wp2
 go_ret
 exact⟨by rw[← ae HM];rfl,0,rfl⟩)
 ·(
 have e0:zy m n=1:=by
  have:=lt2 (by omega)
  simp only[zy]
  rw[if_neg (by omega),if_neg (by omega)]
 have E:=af e0
 clear e0 lt1 lt2
 obtain⟨r,hr0⟩:∃ r,r=zy m n:=⟨_,rfl⟩
 have HM:=af hr0
 have HR:Hid (r=zy xs.length ys.length):=by show _=_;rw[hr0,ae E,zy];rw[if_neg hlt,if_neg hne]
 clear hr0
 go_enter func191,ntmps191
 go_wp2_with fail
 refine (zug xs.length ys.length _ r HR).mono ?_
 rintro e w1 ⟨rfl,hw⟩
 obtain rfl:=hw.symm
 go_wp2
 go_ret
 exact⟨by rw[← ae HM];rfl,0,rfl⟩)))
theorem qgw (x y c:Nat) (hx:x<18446744073709551616) (hy:y<18446744073709551616) (hc:c≤1) (s k:Nat) (h:x+y+c=s+18446744073709551616*k) (hs:s<18446744073709551616) (w:World) :
   (callFunc 212 #[.int .u64 (x:Int),.int .u64 (y:Int),.int .u64 (c:Int)]).run prog w=.ok (.value (.tuple #[.int .u64 (s:Int),.int .u64 (k:Int)])) w:=by(
 rw[run_callFunc_extern func212 (by kernel_rfl) (by kernel_rfl) (by kernel_rfl) (e:=add64Entry) (by kernel_rfl),run_add64 x y c (by omega) (by omega) (by omega) (by omega)]
 simp only[Result.andThen]
 have e1:((x:Int)+(y:Int)+(c:Int))%18446744073709551616=(s:Int):=by omega
 have e2:((x:Int)+(y:Int)+(c:Int))/18446744073709551616=(k:Int):=by omega
 rw[e1,e2])
theorem zly (x y c:Nat) (hc:c≤1) (s k:Nat) (h:s+y+c=x+18446744073709551616*k) (hs:s<18446744073709551616) (hx:x<18446744073709551616) (hy:y<18446744073709551616) (w:World) :
   (callFunc 261 #[.int .u64 (x:Int),.int .u64 (y:Int),.int .u64 (c:Int)]).run prog w=.ok (.value (.tuple #[.int .u64 (s:Int),.int .u64 (k:Int)])) w:=by(
 rw[run_callFunc_extern func261 (by kernel_rfl) (by kernel_rfl) (by kernel_rfl) (e:=sub64Entry) (by kernel_rfl),run_sub64 x y c hc]
 simp only[Result.andThen]
 have e1:(x+18446744073709551616-y-c)%18446744073709551616=s:=by omega
 have e2:(if x<y+c then 1 else 0:Nat)=k:=by split <;> omega
 rw[e1,e2])
theorem qmd (x c:Nat) (hx:x < 18446744073709551616) (hc:c≤1) (s k:Nat) (h:x+0+c=s + 18446744073709551616*k) (hs:s < 18446744073709551616) (w:World) :
  (callFunc 212 #[.int .u64 (x:Int),.int .u64 0,.int .u64 (c:Int)]).run prog w=.ok (.value (.tuple #[.int .u64 (s:Int),.int .u64 (k:Int)])) w:=qgw x 0 c hx (by omega) hc s k h hs w
theorem zne (x y:Nat) (hx:x < 18446744073709551616) (hy:y < 18446744073709551616) (s k:Nat) (h:x+y=s + 18446744073709551616*k) (hs:s < 18446744073709551616) (w:World) :
  (callFunc 212 #[.int .u64 (x:Int),.int .u64 (y:Int),.int .u64 0]).run prog w=.ok (.value (.tuple #[.int .u64 (s:Int),.int .u64 (k:Int)])) w:=qgw x y 0 hx hy (by omega) s k h hs w
theorem qlj (x c:Nat) (hc:c≤1) (s k:Nat) (h:s+0+c=x + 18446744073709551616*k) (hs:s < 18446744073709551616) (hx:x < 18446744073709551616) (w:World) :
  (callFunc 261 #[.int .u64 (x:Int),.int .u64 0,.int .u64 (c:Int)]).run prog w=.ok (.value (.tuple #[.int .u64 (s:Int),.int .u64 (k:Int)])) w:=zly x 0 c hc s k h hs hx (by omega) w
theorem zvc (x y:Nat) (s k:Nat) (h:s+y=x + 18446744073709551616*k) (hs:s < 18446744073709551616) (hx:x < 18446744073709551616) (hy:y < 18446744073709551616) (w:World) :
  (callFunc 261 #[.int .u64 (x:Int),.int .u64 (y:Int),.int .u64 0]).run prog w=.ok (.value (.tuple #[.int .u64 (s:Int),.int .u64 (k:Int)])) w:=zly x y 0 (by omega) s k h hs hx hy w
end Go.Proofs.YtagmkkiagjmimaaGreatDoor
