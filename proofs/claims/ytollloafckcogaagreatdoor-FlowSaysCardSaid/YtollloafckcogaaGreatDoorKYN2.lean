/- Sums and differences of 64-bit words wit -/
import Derived.Test.YtollloafckcogaaGreatDoorKYBase
namespace Go.Proofs.YtollloafckcogaaGreatDoor
open Go.RowKit
theorem add64 (x y c:Nat) (hx:x<18446744073709551616) (hy:y<18446744073709551616) (hc:c≤1) (s k:Nat) (h:x+y+c=s+18446744073709551616*k) (hs:s<18446744073709551616) (w:World) :
  (callFunc 149 #[.int .u64 (x:Int),.int .u64 (y:Int),.int .u64 (c:Int)]).run Tryz.prog w=.ok (.value (.tuple #[.int .u64 (s:Int),.int .u64 (k:Int)])) w:=by
 rw [run_callFunc_extern Tryz.func149 (by kernel_rfl) (by kernel_rfl) (by kernel_rfl) (e:=add64Entry) (by kernel_rfl),run_add64 x y c (by omega) (by omega) (by omega) (by omega)]
 simp only [Result.andThen]
 have e1:((x:Int)+(y:Int)+(c:Int))%18446744073709551616=(s:Int):=by omega
 have e2:((x:Int)+(y:Int)+(c:Int))/18446744073709551616=(k:Int):=by omega
 rw [e1,e2]
theorem sub64 (x y c:Nat) (hc:c≤1) (s k:Nat) (h:s+y+c=x+18446744073709551616*k) (hs:s<18446744073709551616) (hx:x<18446744073709551616) (hy:y<18446744073709551616) (w:World) :
  (callFunc 191 #[.int .u64 (x:Int),.int .u64 (y:Int),.int .u64 (c:Int)]).run Tryz.prog w=.ok (.value (.tuple #[.int .u64 (s:Int),.int .u64 (k:Int)])) w:=by
 rw [run_callFunc_extern Tryz.func191 (by kernel_rfl) (by kernel_rfl) (by kernel_rfl) (e:=sub64Entry) (by kernel_rfl),run_sub64 x y c hc]
 simp only [Result.andThen]
 have e1:(x+18446744073709551616-y-c)%18446744073709551616=s:=by omega
 have e2:(if x<y+c then 1 else 0:Nat)=k:=by split <;> omega
 rw [e1,e2]
theorem add64z (x c:Nat) (hx:x < 18446744073709551616) (hc:c≤1) (s k:Nat) (h:x+0+c=s + 18446744073709551616*k) (hs:s < 18446744073709551616) (w:World) :
  (callFunc 149 #[.int .u64 (x:Int),.int .u64 0,.int .u64 (c:Int)]).run Tryz.prog w=.ok (.value (.tuple #[.int .u64 (s:Int),.int .u64 (k:Int)])) w:=add64 x 0 c hx (by omega) hc s k h hs w
theorem add64c (x y:Nat) (hx:x < 18446744073709551616) (hy:y < 18446744073709551616) (s k:Nat) (h:x+y=s + 18446744073709551616*k) (hs:s < 18446744073709551616) (w:World) :
  (callFunc 149 #[.int .u64 (x:Int),.int .u64 (y:Int),.int .u64 0]).run Tryz.prog w=.ok (.value (.tuple #[.int .u64 (s:Int),.int .u64 (k:Int)])) w:=add64 x y 0 hx hy (by omega) s k h hs w
theorem sub64z (x c:Nat) (hc:c≤1) (s k:Nat) (h:s+0+c=x + 18446744073709551616*k) (hs:s < 18446744073709551616) (hx:x < 18446744073709551616) (w:World) :
  (callFunc 191 #[.int .u64 (x:Int),.int .u64 0,.int .u64 (c:Int)]).run Tryz.prog w=.ok (.value (.tuple #[.int .u64 (s:Int),.int .u64 (k:Int)])) w:=sub64 x 0 c hc s k h hs hx (by omega) w
theorem sub64c (x y:Nat) (s k:Nat) (h:s+y=x + 18446744073709551616*k) (hs:s < 18446744073709551616) (hx:x < 18446744073709551616) (hy:y < 18446744073709551616) (w:World) :
  (callFunc 191 #[.int .u64 (x:Int),.int .u64 (y:Int),.int .u64 0]).run Tryz.prog w=.ok (.value (.tuple #[.int .u64 (s:Int),.int .u64 (k:Int)])) w:=sub64 x y 0 (by omega) s k h hs hx hy w
end Go.Proofs.YtollloafckcogaaGreatDoor

namespace Go.Proofs.YtollloafckcogaaGreatDoor
open Go.RowKit
set_option maxHeartbeats 2000000
theorem add_letters (x y c:Nat) (hx:x < 18446744073709551616) (hy:y < 18446744073709551616) (hc:c≤1):∃ s k,s < 18446744073709551616∧k≤1∧x+y+c=s + 18446744073709551616*k :=
 ⟨(x+y+c) % 18446744073709551616,(x+y+c) / 18446744073709551616,by omega,by omega,by omega⟩
theorem sub_letters (x y c:Nat) (hx:x < 18446744073709551616) (hy:y < 18446744073709551616) (hc:c≤1):∃ s k,s < 18446744073709551616∧k≤1∧s+y+c=x + 18446744073709551616*k :=
 if h:y+c≤x then ⟨x-y-c,0,by omega,by omega,by omega⟩ else ⟨x + 18446744073709551616-y-c,1,by omega,by omega,by omega⟩
theorem addTo_any (g o cap:Nat) (rs ys:List Nat) (vy:Value) (w:World) (hs:Seg w g o rs) (_hc:rs.length≤cap) (hy:Sl .u64 w vy ys) (hoff:0<ys.length→Off g vy) (hm:∀ x ∈ rs,x < 18446744073709551616) (hmy:∀ x ∈ ys,x < 18446744073709551616) (hle:ys.length≤rs.length) (hl:rs.length<2147483648) :
  Calls Tryz.prog 154 #[.slice (some ⟨g,o,none⟩) rs.length cap,vy] w fun e w'=>∃ c rs',e=.returned (.int .u64 (c:Nat))∧c≤1∧rs'.length=rs.length∧(∀ x ∈ rs',x < 18446744073709551616)∧vl 18446744073709551616 rs' + c * 18446744073709551616^rs.length=vl 18446744073709551616 rs+vl 18446744073709551616 ys∧Seg w' g o rs'∧Part g o rs.length w w':=by
 obtain ⟨a,capy,rfl,hcy,hcell,-⟩:=hy
 have I0:Hid (AddInv rs rs 0 0 0∧Seg w g o rs∧Part g o rs.length w w):=⟨AddInv.start rs hm,hs,Part.refl _ _ _ _⟩
 have HC:=hide hcell
 have HM:=hide hmy
 have HO:=hide hoff
 clear hcell hmy hs hm hoff
 go_enter Tryz.func154,Tryz.ntmps154
 go_wp2
 go_loopw [5,11] (fun c i wr=>∃ (k cN:Nat) (rq:List Nat),k≤ys.length∧i=.int .i64 k∧c=.int .u64 cN∧cN≤1∧rq.length=rs.length∧Hid (AddInv rs rq k cN (vl 18446744073709551616 (ys.take k))∧Seg wr g o rq∧Part g o rs.length w wr)) (fun _ i _=>ys.length-(intOf i).toNat)
 case atStart=>exact ⟨0,0,rs,Nat.zero_le _,rfl,rfl,by omega,rfl,I0⟩
 case round =>
  obtain ⟨k,cN,rq,hk,rfl,rfl,hcN,hrq,HI⟩:=hrel
  rename World=>wr
  by_cases hlt:k<ys.length
  ·obtain ⟨b,off,rfl,hcy1⟩:=unhide HC k hlt
   have hne:b≠g:=unhide HO (by omega) b off _ _ rfl
   have cy:=(unhide HI).2.2.but.cell_some hcy1 (by simp [hne])
   have hyB:ys[k]?.getD 0 < 18446744073709551616:=mem_getD (unhide HM) (by omega) k
   have hrB:rq[k]?.getD 0 < 18446744073709551616:=mem_getD (unhide HI).1.mem (by omega) k
   obtain ⟨cr,fr⟩:=(unhide HI).2.1 k (by omega)
   have hrs:k<rs.length:=by omega
   have TS:Hid (vl 18446744073709551616 (ys.take (k+1))=vl 18446744073709551616 (ys.take k)+ys[k]?.getD 0 * 18446744073709551616^k):=vl_take_succ 18446744073709551616 ys k hlt
   obtain ⟨s,c',hs,hc',he⟩:=add_letters _ _ _ hrB hyB hcN
   have ST:=hide ((unhide HI).1.step (by omega) s c' _ hs he)
   have AD:=fun w=>add64 _ _ _ hrB hyB hcN s c' he hs w
   have HE:=hide he
   clear he hcy1
   generalize rq[k]?.getD 0=r at *
   generalize ys[k]?.getD 0=y at *
   go_wp2
   refine ⟨⟨k+1,c',rq.set k s,by omega,by go_num,rfl,hc',by rw [List.length_set];exact hrq,?_⟩,?_⟩
   ·refine ⟨?_,(unhide HI).2.1.set k (by omega) s,(unhide HI).2.2.setCell k (by omega) _⟩
    rw [unhide TS];exact unhide ST
   ·simp [intOf];omega
  ·have hke:k=ys.length:=by omega
   subst hke
   clear HC
   go_wp2
   go_loopw [5,8] (fun c i wr=>∃ (k cN:Nat) (rq:List Nat),k≤rs.length∧i=.int .i64 k∧c=.int .u64 cN∧cN≤1∧rq.length=rs.length∧Hid (AddInv rs rq k cN (vl 18446744073709551616 ys)∧Seg wr g o rq∧Part g o rs.length w wr)) (fun _ i _=>rs.length-(intOf i).toNat)
   case atStart=>exact ⟨ys.length,cN,rq,hle,rfl,rfl,hcN,hrq,by have:=unhide HI;rw [List.take_length] at this;exact this⟩
   case round =>
    clear HI hk hcN hrq
    obtain ⟨k,cN,rq,hk,rfl,rfl,hcN,hrq,HI⟩:=hrel
    rename World=>wr
    by_cases hlt:k<rs.length
    ·by_cases hz:cN=0
     ·subst hz
      go_wp2
      go_ret
      refine ⟨0,rq,rfl,by omega,hrq,(unhide HI).1.mem,?_,(unhide HI).2.1,(unhide HI).2.2⟩
      have:=(unhide HI).1.val
      omega
     ·have hz1:((cN:Int) != 0)=true:=by simp;exact hz
      have hrB:rq[k]?.getD 0 < 18446744073709551616:=mem_getD (unhide HI).1.mem (by omega) k
      obtain ⟨cr,fr⟩:=(unhide HI).2.1 k (by omega)
      obtain ⟨s,c',hs,hc',he⟩:=add_letters _ 0 _ hrB (by omega) hcN
      have ST:=hide ((unhide HI).1.step (by omega) s c' 0 hs he)
      have AD:=fun w=>add64z _ _ hrB hcN s c' he hs w
      have HE:=hide he
      clear he
      generalize rq[k]?.getD 0=r at *
      go_wp2
      refine ⟨⟨k+1,c',rq.set k s,by omega,by go_num,rfl,hc',by rw [List.length_set];exact hrq,?_⟩,?_⟩
      ·refine ⟨?_,(unhide HI).2.1.set k (by omega) s,(unhide HI).2.2.setCell k (by omega) _⟩
       have:=unhide ST
       simpa using this
      ·simp [intOf];omega
    ·have hke:k=rs.length:=by omega
     subst hke
     go_wp2
     go_ret
     exact ⟨cN,rq,rfl,hcN,hrq,(unhide HI).1.mem,(unhide HI).1.val,(unhide HI).2.1,(unhide HI).2.2⟩
theorem subFrom_any (g o cap:Nat) (rs ys:List Nat) (vy:Value) (w:World) (hs:Seg w g o rs) (_hc:rs.length≤cap) (hy:Sl .u64 w vy ys) (hoff:0<ys.length→Off g vy) (hm:∀ x ∈ rs,x < 18446744073709551616) (hmy:∀ x ∈ ys,x < 18446744073709551616) (hle:ys.length≤rs.length) (hl:rs.length<2147483648) :
  Calls Tryz.prog 178 #[.slice (some ⟨g,o,none⟩) rs.length cap,vy] w fun e w'=>∃ c rs',e=.returned (.int .u64 (c:Nat))∧c≤1∧rs'.length=rs.length∧(∀ x ∈ rs',x < 18446744073709551616)∧vl 18446744073709551616 rs' + vl 18446744073709551616 ys=vl 18446744073709551616 rs+c * 18446744073709551616^rs.length∧Seg w' g o rs'∧Part g o rs.length w w':=by
 obtain ⟨a,capy,rfl,hcy,hcell,-⟩:=hy
 have I0:Hid (SubInv rs rs 0 0 0∧Seg w g o rs∧Part g o rs.length w w):=⟨SubInv.start rs hm,hs,Part.refl _ _ _ _⟩
 have HC:=hide hcell
 have HM:=hide hmy
 have HO:=hide hoff
 clear hcell hmy hs hm hoff
 go_enter Tryz.func178,Tryz.ntmps178
 go_wp2
 go_loopw [5,11] (fun c i wr=>∃ (k cN:Nat) (rq:List Nat),k≤ys.length∧i=.int .i64 k∧c=.int .u64 cN∧cN≤1∧rq.length=rs.length∧Hid (SubInv rs rq k cN (vl 18446744073709551616 (ys.take k))∧Seg wr g o rq∧Part g o rs.length w wr)) (fun _ i _=>ys.length-(intOf i).toNat)
 case atStart=>exact ⟨0,0,rs,Nat.zero_le _,rfl,rfl,by omega,rfl,I0⟩
 case round =>
  obtain ⟨k,cN,rq,hk,rfl,rfl,hcN,hrq,HI⟩:=hrel
  rename World=>wr
  by_cases hlt:k<ys.length
  ·obtain ⟨b,off,rfl,hcy1⟩:=unhide HC k hlt
   have hne:b≠g:=unhide HO (by omega) b off _ _ rfl
   have cy:=(unhide HI).2.2.but.cell_some hcy1 (by simp [hne])
   have hyB:ys[k]?.getD 0 < 18446744073709551616:=mem_getD (unhide HM) (by omega) k
   have hrB:rq[k]?.getD 0 < 18446744073709551616:=mem_getD (unhide HI).1.mem (by omega) k
   obtain ⟨cr,fr⟩:=(unhide HI).2.1 k (by omega)
   have hrs:k<rs.length:=by omega
   have TS:Hid (vl 18446744073709551616 (ys.take (k+1))=vl 18446744073709551616 (ys.take k)+ys[k]?.getD 0 * 18446744073709551616^k):=vl_take_succ 18446744073709551616 ys k hlt
   obtain ⟨s,c',hs,hc',he⟩:=sub_letters _ _ _ hrB hyB hcN
   have ST:=hide ((unhide HI).1.step (by omega) s c' _ hs he)
   have AD:=fun w=>sub64 _ _ _ hcN s c' he hs hrB hyB w
   have HE:=hide he
   clear he hcy1
   generalize rq[k]?.getD 0=r at *
   generalize ys[k]?.getD 0=y at *
   go_wp2
   refine ⟨⟨k+1,c',rq.set k s,by omega,by go_num,rfl,hc',by rw [List.length_set];exact hrq,?_⟩,?_⟩
   ·refine ⟨?_,(unhide HI).2.1.set k (by omega) s,(unhide HI).2.2.setCell k (by omega) _⟩
    rw [unhide TS];exact unhide ST
   ·simp [intOf];omega
  ·have hke:k=ys.length:=by omega
   subst hke
   clear HC
   go_wp2
   go_loopw [5,8] (fun c i wr=>∃ (k cN:Nat) (rq:List Nat),k≤rs.length∧i=.int .i64 k∧c=.int .u64 cN∧cN≤1∧rq.length=rs.length∧Hid (SubInv rs rq k cN (vl 18446744073709551616 ys)∧Seg wr g o rq∧Part g o rs.length w wr)) (fun _ i _=>rs.length-(intOf i).toNat)
   case atStart=>exact ⟨ys.length,cN,rq,hle,rfl,rfl,hcN,hrq,by have:=unhide HI;rw [List.take_length] at this;exact this⟩
   case round =>
    clear HI hk hcN hrq
    obtain ⟨k,cN,rq,hk,rfl,rfl,hcN,hrq,HI⟩:=hrel
    rename World=>wr
    by_cases hlt:k<rs.length
    ·by_cases hz:cN=0
     ·subst hz
      go_wp2
      go_ret
      refine ⟨0,rq,rfl,by omega,hrq,(unhide HI).1.mem,?_,(unhide HI).2.1,(unhide HI).2.2⟩
      have:=(unhide HI).1.val
      omega
     ·have hz1:((cN:Int) != 0)=true:=by simp;exact hz
      have hrB:rq[k]?.getD 0 < 18446744073709551616:=mem_getD (unhide HI).1.mem (by omega) k
      obtain ⟨cr,fr⟩:=(unhide HI).2.1 k (by omega)
      obtain ⟨s,c',hs,hc',he⟩:=sub_letters _ 0 _ hrB (by omega) hcN
      have ST:=hide ((unhide HI).1.step (by omega) s c' 0 hs he)
      have AD:=fun w=>sub64z _ _ hcN s c' he hs hrB w
      have HE:=hide he
      clear he
      generalize rq[k]?.getD 0=r at *
      go_wp2
      refine ⟨⟨k+1,c',rq.set k s,by omega,by go_num,rfl,hc',by rw [List.length_set];exact hrq,?_⟩,?_⟩
      ·refine ⟨?_,(unhide HI).2.1.set k (by omega) s,(unhide HI).2.2.setCell k (by omega) _⟩
       have:=unhide ST
       simpa using this
      ·simp [intOf];omega
    ·have hke:k=rs.length:=by omega
     subst hke
     go_wp2
     go_ret
     exact ⟨cN,rq,rfl,hcN,hrq,(unhide HI).1.mem,(unhide HI).1.val,(unhide HI).2.1,(unhide HI).2.2⟩
end Go.Proofs.YtollloafckcogaaGreatDoor
