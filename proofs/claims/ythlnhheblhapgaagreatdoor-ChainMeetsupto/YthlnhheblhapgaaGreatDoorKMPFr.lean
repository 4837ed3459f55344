/- Out of PF: what needs no more than these -/
import Derived.Test.YthlnhheblhapgaaGreatDoorKMD1
import Derived.Test.YthlnhheblhapgaaGreatDoorKMGL
namespace Go.Proofs.YthlnhheblhapgaaGreatDoor
open Go.RowKit
def sgN (f:Nat→Nat):Nat→Nat
 | 0=>0
 | k+1=>sgN f k+f k
end Go.Proofs.YthlnhheblhapgaaGreatDoor

namespace Go.Proofs.YthlnhheblhapgaaGreatDoor
open Go.RowKit
set_option maxHeartbeats 16000000
set_option maxRecDepth 100000
theorem sgN_up (f:Nat→Nat) (k:Nat):∀ d,sgN f k≤sgN f (k+d)
 | 0=>Nat.le_refl _
 | d+1=>Nat.le_trans (sgN_up f k d) (by show sgN f (k+d)≤sgN f (k+d)+f (k+d);omega)
theorem sgN_le {f:Nat→Nat} {k n:Nat} (h:k≤n):sgN f k≤sgN f n:=by
 have:=sgN_up f k (n-k)
 rwa [show k+(n-k)=n from by omega] at this
theorem sgN_part {f:Nat→Nat} {k n:Nat} (h:k<n):sgN f k+f k≤sgN f n:=sgN_le (f:=f) (k:=k+1) (by omega)
def tot2 (rs:List (List (Int × Int))):Nat→Nat:=sgN (fun j=>(rs[j]?.getD []).length)
def tot3 (rss:List (List (List (Int × Int)))):Nat→Nat:=sgN (fun i=>(rss[i]?.getD []).length+tot2 (rss[i]?.getD []) (rss[i]?.getD []).length)
theorem few3_any (q:Option Addr) (n cap:Nat) (rss:List (List (List (Int × Int)))) (w:World) (hv:QyearsAt w (.slice q n cap) rss) (hT:n+tot3 rss n≤2000000) :
  Calls Tryz.prog 4 #[.slice q n cap,.int .i64 300] w fun e w'=>e=.returned (.bool (decide (n+tot3 rss n≤300)))∧But [] w w':=by
 obtain ⟨bl,hbl⟩:∃ bl,bl=decide (n+tot3 rss n≤300):=⟨_,rfl⟩
 rw [← hbl]
 have HBL:=hide hbl
 have HV:=hide hv
 have HT:=hide hT
 have hn:n≤2000000:=by omega
 clear hv hbl hT
 go_enter Tryz.func4,Tryz.ntmps4
 go_wp2
 go_loopw [5,6] (fun nv iv wr=>∃ i t:Nat,i≤n∧iv=.int .i64 (i:Int)∧nv=.int .i64 (t:Int)∧t≤2000000∧Hid (t=n+tot3 rss i∧wr=w)) (fun _ iv _=>n-(intOf iv).toNat)
 case atStart=>exact ⟨0,n,by omega,rfl,rfl,by omega,rfl,rfl⟩
 case round =>
  obtain ⟨i,t,hi,rfl,rfl,ht5,HI⟩:=hrel
  rename World=>wr
  obtain ⟨hti,rfl⟩:=unhide HI
  have HTI:=hide hti
  clear HI hti
  by_cases hlt:i<n
  ·obtain ⟨b,off,ai,ci,rs,rfl,hrs,hci,hqi⟩:=(unhide HV).at i hlt
   have hp:tot3 rss i+(rs.length+tot2 rs rs.length)≤tot3 rss n:=by
    have:=sgN_part (f:=fun i=>(rss[i]?.getD []).length+tot2 (rss[i]?.getD []) (rss[i]?.getD []).length) hlt
    simp only [hrs,Option.getD_some] at this
    exact this
   have hst:tot3 rss (i+1)=tot3 rss i+(rs.length+tot2 rs rs.length):=by
    show tot3 rss i+((rss[i]?.getD []).length+tot2 (rss[i]?.getD []) (rss[i]?.getD []).length)=_
    rw [hrs,Option.getD_some]
   have h1:=unhide HT
   have h2:=unhide HTI
   obtain ⟨li,hli⟩:∃ li,li=rs.length:=⟨_,rfl⟩
   rw [← hli] at hci hqi hp hst
   have b1:t+li≤2000000:=by omega
   have HS:=hide (And.intro hp (And.intro hst (And.intro h1 h2)))
   have HQI:=hide hqi
   clear hp hst h1 h2 hqi hrs hli
   go_wp2
   go_loopw [5,7] (fun nv kv wr'=>∃ k t':Nat,k≤li∧kv=.int .i64 (k:Int)∧nv=.int .i64 (t':Int)∧t'≤2000000∧Hid (t'=t+li+tot2 rs k∧wr'=wr)) (fun _ kv _=>li-(intOf kv).toNat)
   case atStart=>exact ⟨0,t+li,by omega,rfl,by go_num,by omega,rfl,rfl⟩
   case round =>
    obtain ⟨k,t',hk,rfl,rfl,ht6,HJ⟩:=hrel
    rename World=>wj
    obtain ⟨hte,rfl⟩:=unhide HJ
    have HTE:=hide hte
    clear HJ hte
    by_cases hlk:k<li
    ·obtain ⟨b2,off2,ak,ck,rfl,hck,-⟩:=(unhide HQI).at k hlk
     obtain ⟨lk,hlk'⟩:∃ lk,lk=(rs[k]?.getD []).length:=⟨_,rfl⟩
     rw [← hlk'] at hck
     have hs:tot2 rs (k+1)=tot2 rs k+lk:=by rw [hlk'];rfl
     have hq:=sgN_part (f:=fun j=>(rs[j]?.getD []).length) hlk
     rw [← hlk'] at hq
     have hq':tot2 rs k+lk≤tot2 rs li:=hq
     have hb5:t' + lk≤2000000:=by
      have:=unhide HS
      have:=unhide HTE
      omega
     have HS2:=hide hs
     clear hlk' hs hq hq'
     go_wp2
     refine ⟨⟨k+1,t' + lk,by omega,by go_num,by go_num,hb5,?_,by first | rfl | trivial⟩,by simp [intOf];omega⟩
     have:=unhide HS2
     have:=unhide HTE
     omega
    ·obtain rfl:k=li:=by omega
     have hfin:t'=n+tot3 rss (i+1):=by
      have:=unhide HS
      have:=unhide HTE
      omega
     have HF:=hide hfin
     clear hfin
     go_wp2
     exact ⟨⟨i+1,t',by omega,by go_num,rfl,ht6,unhide HF,by first | rfl | trivial⟩,by simp [intOf];omega⟩
  ·obtain rfl:i=n:=by omega
   go_wp2
   go_ret
   refine ⟨?_,But.refl _ _⟩
   rw [unhide HBL,← unhide HTI]
   show Ending.returned (.bool (decide ((t:Int)≤300)))=_
   congr 2
   exact decide_eq_decide.2 (by omega)
end Go.Proofs.YthlnhheblhapgaaGreatDoor
