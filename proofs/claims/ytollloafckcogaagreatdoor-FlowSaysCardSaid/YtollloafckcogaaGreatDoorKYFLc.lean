/- A list of the program's and one of the r -/
import Derived.Test.YtollloafckcogaaGreatDoorKYRLd
namespace Go.Proofs.YtollloafckcogaaGreatDoor
open Go.RowKit
set_option maxHeartbeats 8000000
set_option maxRecDepth 100000
theorem list_ok (v1 v2:Value) (fs:List Rat) (w:World) (h1:FracsAt w v1 fs) (h2:RatsAt w v2 fs) (lf:∀ f ∈ fs,Len f 1000000) (hn:fs.length≤1000) (htab:Lib.TabIs Tryz.prog w "internal/strconv.uint64pow10" .u64 Lib.pow10Tab) :
  Calls Tryz.prog 17 #[v1,.nilIface,v2,.int .i64 0] w fun e w'=>e=.returned (.bool true)∧But [] w w':=by
 have T1:=hide (plainTexts_any v1 fs w h1 lf hn htab)
 have T2:=hide (fun W (hb:But [] w W)=>refTexts_any v2 fs W (h2.but hb) lf hn)
 have SM:=hide (fun W a b (h1:TxtsAt W a (fs.map txtF)) (h2:TxtsAt W b (fs.map txtF))=>same_eq a b (fs.map txtF) W h1 h2 (by rw [List.length_map];exact hn))
 clear h1 h2 lf htab
 go_enter Tryz.func17,Tryz.ntmps17
 go_wp2_with fail
 refine (unhide T1).mono ?_
 rintro e w1 ⟨a,rfl,ha,hb1⟩
 have A1:=hide ha.txts
 have B1:=hide hb1
 clear ha hb1 T1
 go_wp2_with fail
 refine (unhide T2 w1 (unhide B1)).mono ?_
 rintro e w2 ⟨b,rfl,hb,hb2⟩
 have S2:=hide (unhide SM w2 a b ((unhide A1).but hb2) hb.txts)
 have B2:=hide ((unhide B1).trans' hb2)
 clear hb hb2 A1 B1 T2 SM
 go_wp2_with fail
 refine (unhide S2).mono ?_
 rintro e w3 ⟨rfl,hb3⟩
 have B3:=hide ((unhide B2).trans' hb3)
 clear hb3 B2 S2
 go_wp2
 go_ret
 exact ⟨rfl,unhide B3⟩
theorem list_err (n:Int) (a:Option Addr) (c:Nat) (b:Value) (w:World) (h0:(n != 0)=true) (hg:w.cell? ⟨0,0,none⟩=some (.iface 169 (.agg #[.pointer (some ⟨6,29,none⟩)]))) :
  Calls Tryz.prog 17 #[.slice a 0 c,.iface 33 (.int .i64 n),b,.int .i64 n] w fun e w'=>e=.returned (.bool true)∧But [] w w':=by
 have TE:=hide (tell_errno n w hg)
 clear hg
 go_enter Tryz.func17,Tryz.ntmps17
 go_wp2_with fail
 refine (unhide TE).mono ?_
 rintro e w1 ⟨rfl,hb⟩
 have B1:=hide hb
 clear hb TE
 go_wp2
 go_ret
 exact ⟨rfl,unhide B1⟩
end Go.Proofs.YtollloafckcogaaGreatDoor

namespace Go.Proofs.YtollloafckcogaaGreatDoor
open Go.RowKit
set_option linter.unusedVariables false
theorem first_bad {P:Nat→Prop}:∀ n,(∃ t,t<n∧¬ P t)→∃ m,m<n∧¬ P m∧∀ i,i<m→P i
 | 0,⟨t,h,_⟩=>by omega
 | n+1,⟨t,h,hp⟩=>by
  by_cases h1:∃ t,t<n∧¬ P t
  ·obtain ⟨m,a,b,c⟩:=first_bad n h1
   exact ⟨m,by omega,b,c⟩
  ·have hall:∀ i,i<n→P i:=fun i hi=>Classical.byContradiction fun hn=>h1 ⟨i,hi,hn⟩
   have:t=n:=Classical.byContradiction fun hne=>hp (hall t (by omega))
   subst this
   exact ⟨t,by omega,hp,hall⟩
end Go.Proofs.YtollloafckcogaaGreatDoor
