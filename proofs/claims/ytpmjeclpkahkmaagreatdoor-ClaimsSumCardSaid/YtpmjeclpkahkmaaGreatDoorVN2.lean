/- Sums and differences of 64-bit words wit -/
import Derived.Test.YtpmjeclpkahkmaaGreatDoorVN1
namespace Go.Proofs.YtpmjeclpkahkmaaGreatDoor
set_option linter.unusedVariables false
open Go.Proofs.Tryz
open Go.RowKit
set_option maxHeartbeats 2000000
theorem qhs (x y c:Nat) (hx:x<18446744073709551616) (hy:y<18446744073709551616) (hc:c≤1) (s k:Nat) (h:x+y+c=s+18446744073709551616*k) (hs:s<18446744073709551616) (w:World) :
  (callFunc 250 #[.int .u64 (x:Int),.int .u64 (y:Int),.int .u64 (c:Int)]).run prog w=.ok (.value (.tuple #[.int .u64 (s:Int),.int .u64 (k:Int)])) w:=by(
rw[run_callFunc_extern func250 (by kernel_rfl) (by kernel_rfl) (by kernel_rfl) (e:=add64Entry) (by kernel_rfl),run_add64 x y c (by omega) (by omega) (by omega) (by omega)]
simp only[Result.andThen]
have e1:((x:Int)+(y:Int)+(c:Int))%18446744073709551616=(s:Int):=by omega
have e2:((x:Int)+(y:Int)+(c:Int))/18446744073709551616=(k:Int):=by omega
rw[e1,e2])
theorem zmm (x y c:Nat) (hc:c≤1) (s k:Nat) (h:s+y+c=x+18446744073709551616*k) (hs:s<18446744073709551616) (hx:x<18446744073709551616) (hy:y<18446744073709551616) (w:World) :
  (callFunc 316 #[.int .u64 (x:Int),.int .u64 (y:Int),.int .u64 (c:Int)]).run prog w=.ok (.value (.tuple #[.int .u64 (s:Int),.int .u64 (k:Int)])) w:=by(
rw[run_callFunc_extern func316 (by kernel_rfl) (by kernel_rfl) (by kernel_rfl) (e:=sub64Entry) (by kernel_rfl),run_sub64 x y c hc]
simp only[Result.andThen]
have e1:(x+18446744073709551616-y-c)%18446744073709551616=s:=by omega
have e2:(if x<y+c then 1 else 0:Nat)=k:=by split <;> omega
rw[e1,e2])
theorem qnc (x c:Nat) (hx:x < 18446744073709551616) (hc:c≤1) (s k:Nat) (h:x+0+c=s + 18446744073709551616*k) (hs:s < 18446744073709551616) (w:World) :
  (callFunc 250 #[.int .u64 (x:Int),.int .u64 0,.int .u64 (c:Int)]).run prog w=.ok (.value (.tuple #[.int .u64 (s:Int),.int .u64 (k:Int)])) w:=qhs x 0 c hx (by omega) hc s k h hs w
theorem zoa (x y:Nat) (hx:x < 18446744073709551616) (hy:y < 18446744073709551616) (s k:Nat) (h:x+y=s + 18446744073709551616*k) (hs:s < 18446744073709551616) (w:World) :
  (callFunc 250 #[.int .u64 (x:Int),.int .u64 (y:Int),.int .u64 0]).run prog w=.ok (.value (.tuple #[.int .u64 (s:Int),.int .u64 (k:Int)])) w:=qhs x y 0 hx hy (by omega) s k h hs w
theorem qml (x c:Nat) (hc:c≤1) (s k:Nat) (h:s+0+c=x + 18446744073709551616*k) (hs:s < 18446744073709551616) (hx:x < 18446744073709551616) (w:World) :
  (callFunc 316 #[.int .u64 (x:Int),.int .u64 0,.int .u64 (c:Int)]).run prog w=.ok (.value (.tuple #[.int .u64 (s:Int),.int .u64 (k:Int)])) w:=zmm x 0 c hc s k h hs hx (by omega) w
theorem zvt (x y:Nat) (s k:Nat) (h:s+y=x + 18446744073709551616*k) (hs:s < 18446744073709551616) (hx:x < 18446744073709551616) (hy:y < 18446744073709551616) (w:World) :
  (callFunc 316 #[.int .u64 (x:Int),.int .u64 (y:Int),.int .u64 0]).run prog w=.ok (.value (.tuple #[.int .u64 (s:Int),.int .u64 (k:Int)])) w:=zmm x y 0 (by omega) s k h hs hx hy w
theorem nk (x y c:Nat) (hx:x < 18446744073709551616) (hy:y < 18446744073709551616) (hc:c≤1):∃ s k,s < 18446744073709551616∧k≤1∧x+y+c=s + 18446744073709551616*k :=
 ⟨(x+y+c) % 18446744073709551616,(x+y+c) / 18446744073709551616,by omega,by omega,by omega⟩
theorem kr (x y c:Nat) (hx:x < 18446744073709551616) (hy:y < 18446744073709551616) (hc:c≤1):∃ s k,s < 18446744073709551616∧k≤1∧s+y+c=x + 18446744073709551616*k :=
 if h:y+c≤x then ⟨x-y-c,0,by omega,by omega,by omega⟩ else ⟨x + 18446744073709551616-y-c,1,by omega,by omega,by omega⟩
theorem zkj (g o cap:Nat) (rs ys:List Nat) (vy:Value) (w:World) (hs:Seg w g o rs) (_hc:rs.length≤cap) (hy:Sl .u64 w vy ys) (hoff:0<ys.length→Off g vy) (hm:∀ x ∈ rs,x < 18446744073709551616) (hmy:∀ x ∈ ys,x < 18446744073709551616) (hle:ys.length≤rs.length) (hl:rs.length<2147483648) :
  Calls prog 266 #[.slice (some ⟨g,o,none⟩) rs.length cap,vy] w fun e w'=>∃ c rs',e=.returned (.int .u64 (c:Nat))∧c≤1∧rs'.length=rs.length∧(∀ x ∈ rs',x < 18446744073709551616)∧vl 18446744073709551616 rs' + c * 18446744073709551616^rs.length=vl 18446744073709551616 rs+vl 18446744073709551616 ys∧Seg w' g o rs'∧Part g o rs.length w w':=by(
obtain⟨a,capy,rfl,hcy,hcell,-⟩:=hy
have I0:Hid (zbo rs rs 0 0 0∧Seg w g o rs∧Part g o rs.length w w):=⟨zbo.start rs hm,hs,Part.refl _ _ _ _⟩
have HC:=af hcell
have HM:=af hmy
have HO:=af hoff
clear hcell hmy hs hm hoff
go_enter func266,ntmps266
go_wp2
go_loopw [5,11] (fun c i wr=>∃ (k cN:Nat) (rq:List Nat),k≤ys.length∧i=.int .i64 k∧c=.int .u64 cN∧cN≤1∧rq.length=rs.length∧Hid (zbo rs rq k cN (vl 18446744073709551616 (ys.take k))∧Seg wr g o rq∧Part g o rs.length w wr)) (fun _ i _=>ys.length-(intOf i).toNat)
case atStart=>exact⟨0,0,rs,Nat.zero_le _,rfl,rfl,by omega,rfl,I0⟩
case round =>(
obtain⟨k,cN,rq,hk,rfl,rfl,hcN,hrq,HI⟩:=hrel
rename World=>wr
by_cases hlt:k<ys.length
·(
obtain⟨b,off,rfl,hcy1⟩:=ae HC k hlt
have hne:b≠g:=ae HO (by omega) b off _ _ rfl
have cy:=(ae HI).2.2.but.ag hcy1 (by simp[hne])
have hyB:ys[k]?.getD 0 < 18446744073709551616:=cf (ae HM) (by omega) k
have hrB:rq[k]?.getD 0 < 18446744073709551616:=cf (ae HI).1.mem (by omega) k
obtain⟨cr,fr⟩:=(ae HI).2.1 k (by omega)
have hrs:k<rs.length:=by omega
have TS:Hid (vl 18446744073709551616 (ys.take (k+1))=vl 18446744073709551616 (ys.take k)+ys[k]?.getD 0 * 18446744073709551616^k):=qw 18446744073709551616 ys k hlt
obtain⟨s,c',hs,hc',he⟩:=nk _ _ _ hrB hyB hcN
have ST:=af ((ae HI).1.step (by omega) s c' _ hs he)
have AD:=fun w=>qhs _ _ _ hrB hyB hcN s c' he hs w
have HE:=af he
clear he hcy1
generalize rq[k]?.getD 0=r at *
generalize ys[k]?.getD 0=y at *
go_wp2
refine⟨⟨k+1,c',rq.set k s,by omega,by go_num,rfl,hc',by rw[List.length_set];exact hrq,?_⟩,?_⟩
·refine⟨?_,(ae HI).2.1.set k (by omega) s,(ae HI).2.2.setCell k (by omega) _⟩
 rw[ae TS];exact ae ST
·simp[intOf];omega)
·(
have hke:k=ys.length:=by omega
subst hke
clear HC
go_wp2
go_loopw [5,8] (fun c i wr=>∃ (k cN:Nat) (rq:List Nat),k≤rs.length∧i=.int .i64 k∧c=.int .u64 cN∧cN≤1∧rq.length=rs.length∧Hid (zbo rs rq k cN (vl 18446744073709551616 ys)∧Seg wr g o rq∧Part g o rs.length w wr)) (fun _ i _=>rs.length-(intOf i).toNat)
case atStart=>exact⟨ys.length,cN,rq,hle,rfl,rfl,hcN,hrq,by have:=ae HI;rw[List.take_length] at this;exact this⟩
case round =>(
clear HI hk hcN hrq
obtain⟨k,cN,rq,hk,rfl,rfl,hcN,hrq,HI⟩:=hrel
rename World=>wr
by_cases hlt:k<rs.length
·(
by_cases hz:cN=0
·(
subst hz
go_wp2
go_ret
refine⟨0,rq,rfl,by omega,hrq,(ae HI).1.mem,?_,(ae HI).2.1,(ae HI).2.2⟩
have:=(ae HI).1.val
omega)
·(
have hz1:((cN:Int) != 0)=true:=by simp;exact hz
have hrB:rq[k]?.getD 0 < 18446744073709551616:=cf (ae HI).1.mem (by omega) k
obtain⟨cr,fr⟩:=(ae HI).2.1 k (by omega)
obtain⟨s,c',hs,hc',he⟩:=nk _ 0 _ hrB (by omega) hcN
have ST:=af ((ae HI).1.step (by omega) s c' 0 hs he)
have AD:=fun w=>qnc _ _ hrB hcN s c' he hs w
have HE:=af he
clear he
generalize rq[k]?.getD 0=r at *
go_wp2
refine⟨⟨k+1,c',rq.set k s,by omega,by go_num,rfl,hc',by rw[List.length_set];exact hrq,?_⟩,?_⟩
·refine⟨?_,(ae HI).2.1.set k (by omega) s,(ae HI).2.2.setCell k (by omega) _⟩
 have:=ae ST
 simpa using this
·simp[intOf];omega))
·(
have hke:k=rs.length:=by omega
subst hke
go_wp2
go_ret
exact⟨cN,rq,rfl,hcN,hrq,(ae HI).1.mem,(ae HI).1.val,(ae HI).2.1,(ae HI).2.2⟩)))))
theorem zkn (g o cap:Nat) (rs ys:List Nat) (vy:Value) (w:World) (hs:Seg w g o rs) (_hc:rs.length≤cap) (hy:Sl .u64 w vy ys) (hoff:0<ys.length→Off g vy) (hm:∀ x ∈ rs,x < 18446744073709551616) (hmy:∀ x ∈ ys,x < 18446744073709551616) (hle:ys.length≤rs.length) (hl:rs.length<2147483648) :
  Calls prog 292 #[.slice (some ⟨g,o,none⟩) rs.length cap,vy] w fun e w'=>∃ c rs',e=.returned (.int .u64 (c:Nat))∧c≤1∧rs'.length=rs.length∧(∀ x ∈ rs',x < 18446744073709551616)∧vl 18446744073709551616 rs' + vl 18446744073709551616 ys=vl 18446744073709551616 rs+c * 18446744073709551616^rs.length∧Seg w' g o rs'∧Part g o rs.length w w':=by(
obtain⟨a,capy,rfl,hcy,hcell,-⟩:=hy
have I0:Hid (zbm rs rs 0 0 0∧Seg w g o rs∧Part g o rs.length w w):=⟨zbm.start rs hm,hs,Part.refl _ _ _ _⟩
have HC:=af hcell
have HM:=af hmy
have HO:=af hoff
clear hcell hmy hs hm hoff
go_enter func292,ntmps292
go_wp2
go_loopw [5,11] (fun c i wr=>∃ (k cN:Nat) (rq:List Nat),k≤ys.length∧i=.int .i64 k∧c=.int .u64 cN∧cN≤1∧rq.length=rs.length∧Hid (zbm rs rq k cN (vl 18446744073709551616 (ys.take k))∧Seg wr g o rq∧Part g o rs.length w wr)) (fun _ i _=>ys.length-(intOf i).toNat)
case atStart=>exact⟨0,0,rs,Nat.zero_le _,rfl,rfl,by omega,rfl,I0⟩
case round =>(
obtain⟨k,cN,rq,hk,rfl,rfl,hcN,hrq,HI⟩:=hrel
rename World=>wr
by_cases hlt:k<ys.length
·(
obtain⟨b,off,rfl,hcy1⟩:=ae HC k hlt
have hne:b≠g:=ae HO (by omega) b off _ _ rfl
have cy:=(ae HI).2.2.but.ag hcy1 (by simp[hne])
have hyB:ys[k]?.getD 0 < 18446744073709551616:=cf (ae HM) (by omega) k
have hrB:rq[k]?.getD 0 < 18446744073709551616:=cf (ae HI).1.mem (by omega) k
obtain⟨cr,fr⟩:=(ae HI).2.1 k (by omega)
have hrs:k<rs.length:=by omega
have TS:Hid (vl 18446744073709551616 (ys.take (k+1))=vl 18446744073709551616 (ys.take k)+ys[k]?.getD 0 * 18446744073709551616^k):=qw 18446744073709551616 ys k hlt
obtain⟨s,c',hs,hc',he⟩:=kr _ _ _ hrB hyB hcN
have ST:=af ((ae HI).1.step (by omega) s c' _ hs he)
have AD:=fun w=>zmm _ _ _ hcN s c' he hs hrB hyB w
have HE:=af he
clear he hcy1
generalize rq[k]?.getD 0=r at *
generalize ys[k]?.getD 0=y at *
go_wp2
refine⟨⟨k+1,c',rq.set k s,by omega,by go_num,rfl,hc',by rw[List.length_set];exact hrq,?_⟩,?_⟩
·refine⟨?_,(ae HI).2.1.set k (by omega) s,(ae HI).2.2.setCell k (by omega) _⟩
 rw[ae TS];exact ae ST
·simp[intOf];omega)
·(
have hke:k=ys.length:=by omega
subst hke
clear HC
go_wp2
go_loopw [5,8] (fun c i wr=>∃ (k cN:Nat) (rq:List Nat),k≤rs.length∧i=.int .i64 k∧c=.int .u64 cN∧cN≤1∧rq.length=rs.length∧Hid (zbm rs rq k cN (vl 18446744073709551616 ys)∧Seg wr g o rq∧Part g o rs.length w wr)) (fun _ i _=>rs.length-(intOf i).toNat)
case atStart=>exact⟨ys.length,cN,rq,hle,rfl,rfl,hcN,hrq,by have:=ae HI;rw[List.take_length] at this;exact this⟩
case round =>(
clear HI hk hcN hrq
obtain⟨k,cN,rq,hk,rfl,rfl,hcN,hrq,HI⟩:=hrel
rename World=>wr
by_cases hlt:k<rs.length
·(
by_cases hz:cN=0
·(
subst hz
go_wp2
go_ret
refine⟨0,rq,rfl,by omega,hrq,(ae HI).1.mem,?_,(ae HI).2.1,(ae HI).2.2⟩
have:=(ae HI).1.val
omega)
·(
have hz1:((cN:Int) != 0)=true:=by simp;exact hz
have hrB:rq[k]?.getD 0 < 18446744073709551616:=cf (ae HI).1.mem (by omega) k
obtain⟨cr,fr⟩:=(ae HI).2.1 k (by omega)
obtain⟨s,c',hs,hc',he⟩:=kr _ 0 _ hrB (by omega) hcN
have ST:=af ((ae HI).1.step (by omega) s c' 0 hs he)
have AD:=fun w=>qml _ _ hcN s c' he hs hrB w
have HE:=af he
clear he
generalize rq[k]?.getD 0=r at *
go_wp2
refine⟨⟨k+1,c',rq.set k s,by omega,by go_num,rfl,hc',by rw[List.length_set];exact hrq,?_⟩,?_⟩
·refine⟨?_,(ae HI).2.1.set k (by omega) s,(ae HI).2.2.setCell k (by omega) _⟩
 have:=ae ST
 simpa using this
·simp[intOf];omega))
·(
have hke:k=rs.length:=by omega
subst hke
go_wp2
go_ret
exact⟨cN,rq,rfl,hcN,hrq,(ae HI).1.mem,(ae HI).1.val,(ae HI).2.1,(ae HI).2.2⟩)))))
end Go.Proofs.YtpmjeclpkahkmaaGreatDoor
