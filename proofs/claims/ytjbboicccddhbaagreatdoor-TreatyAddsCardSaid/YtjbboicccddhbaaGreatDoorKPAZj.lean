/- The law TreatyAdds, whatever lines and c -/
import Derived.Test.YtjbboicccddhbaaGreatDoorKPAZi
namespace Go.Proofs.YtjbboicccddhbaaGreatDoor
open Go.RowKit Go.Shelf
set_option maxHeartbeats 16000000
set_option maxRecDepth 100000
set_option linter.unusedVariables false
theorem treatyAdds_err (q:Option Addr) (n c:Nat) (ps:List PL) (qc:Option Addr) (nc cc:Nat) (cs:List (Int × Int)) (mx:Int) (w:World) (hv:PLsAt w (.slice q n c) ps) (hc:ClAt w (.slice qc nc cc) cs) (hn:n≤45) (hnc:nc≤100) (hf:∀ p ∈ ps,Fits (p.qu,p.qv)) (hbig:∀ p ∈ ps,p.to.size<9223372036854775808) (hbad:¬ ((n≤40∧TrOk (ps.map lnOf) n)∧∀ p ∈ cs,ClOk p))
  (htab:Lib.TabIs Tryz.prog w "internal/strconv.uint64pow10" .u64 Lib.pow10Tab) (hF:FormsAt w) (hm:w.cell? ⟨5,0,none⟩=some (.int .i64 mx)) :
  Calls Tryz.prog 5 #[.slice q n c,.slice qc nc cc] w fun e w'=>e=.returned (.bool true)∧But [] w w':=by
 have hnl:n=ps.length:=by
  obtain ⟨a,cap,e,-⟩:=hv
  simp only [Value.slice.injEq] at e
  exact e.2.1
 obtain ⟨ls,hls⟩:∃ ls,ls=ps.map lnOf:=⟨_,rfl⟩
 have hll:n=ls.length:=by rw [hls,List.length_map];exact hnl
 have PT:=hide (plainTreaty_any q n c ps w hv hn hf)
 rw [← hls] at PT
 have AP:Hid (∀ W a c',But [] w W→LRow w.heap.size W (.slice a n c') ls→Calls Tryz.prog 27 #[.slice a n c',.slice qc nc cc] W fun e w'=>∃ z,e=.returned (.tuple #[.agg #[.slice none 0 0,.slice none 0 0,.slice none 0 0,.int .i64 0],.iface 92 (.int .i64 z)])∧But [] W w'):=fun W a c' hb hl =>
  apply_err a n c' ls qc nc cc cs W hl.lines (hc.but hb) hnc (by rw [hls];exact lines_len ps hf) (fun l hl=>by
   rw [hls] at hl
   obtain ⟨p,hp,rfl⟩:=List.mem_map.1 hl
   exact hbig p hp) (by rw [hls];exact hbad)
 have SHD:=hide (fun W (hb:But [] w W)=>shared_any mx W (TabIs.but htab hb) (hF.but hb) (hb.cell_some hm (by simp)))
 have HLL:=hide hll
 clear hv hc hf hbig hbad htab hF hm hnl hls hll
 go_enter Tryz.func5,Tryz.ntmps5
 go_wp2_with fail
 refine (unhide PT).mono ?_
 rintro e w1 ⟨v,rfl,hl,hb1⟩
 obtain ⟨a,c',rfl⟩:=hl.form
 rw [← unhide HLL] at hl ⊢
 have AP1:=hide (unhide AP w1 a c' hb1 hl)
 have B1:=hide hb1
 clear hl hb1 PT AP
 go_wp2_with fail
 refine (unhide AP1).mono ?_
 rintro e w2 ⟨z,rfl,hb2⟩
 have bB:But [] w2 (w2.alloc (.cells #[.slice none 0 0,.slice none 0 0,.slice none 0 0,.int .i64 0] 55)):=(But.refl [] w2).alloc _
 have D5:=hide (NewB.made 0 w2 [.slice none 0 0,.slice none 0 0,.slice none 0 0,.int .i64 0] 55 (Nat.zero_le _))
 have B2:=hide (((unhide B1).trans' hb2).trans' bB)
 clear hb2 bB B1 AP1
 go_wp2_with fail
 refine (unhide SHD _ (unhide B2)).mono ?_
 rintro e V ⟨rfl,hb3⟩
 have B3:=hide ((unhide B2).trans' hb3)
 have D6:=hide ((unhide D5).but hb3)
 generalize w2.heap.size=g5 at D6 ⊢
 clear hb3 D5 B2
 go_wp2_with fail
 refine (unhide SHD _ (unhide B3)).mono ?_
 rintro e V2 ⟨rfl,hb4⟩
 have B4:=hide ((unhide B3).trans' hb4)
 have d6:=(unhide D6).but hb4
 have r0:=d6.cells 0 _ rfl
 have r3:=d6.cells 3 _ rfl
 clear hb4 d6 D6 B3 SHD
 go_wp2
 exact bodyPost_ret (v:=.bool true) (by simp [results,Tryz.results5,go_sem]) rfl ⟨rfl,unhide B4⟩
theorem treatyAdds_many (q:Option Addr) (n c:Nat) (qc:Option Addr) (nc cc:Nat) (w:World) (hn:¬ (n≤45∧nc≤100)) :
  Calls Tryz.prog 5 #[.slice q n c,.slice qc nc cc] w fun e w'=>e=.returned (.bool true)∧But [] w w':=by
 by_cases h1:n≤45
 ·have h2:(100:Int)<(nc:Int):=by omega
  have h3:¬ (45:Int)<(n:Int):=by omega
  clear hn h1
  go_enter Tryz.func5,Tryz.ntmps5
  go_wp2
  exact bodyPost_ret (v:=.bool true) (by simp [results,Tryz.results5,go_sem]) rfl ⟨rfl,But.refl _ _⟩
 ·have h3:(45:Int)<(n:Int):=by omega
  clear hn h1
  go_enter Tryz.func5,Tryz.ntmps5
  go_wp2
  exact bodyPost_ret (v:=.bool true) (by simp [results,Tryz.results5,go_sem]) rfl ⟨rfl,But.refl _ _⟩
theorem treatyAdds_any (v vc:Value) (ps:List PL) (cs:List (Int × Int)) (mx:Int) (w:World) (hv:PLsAt w v ps) (hc:ClAt w vc cs) (hf:∀ p ∈ ps,Fits (p.qu,p.qv)) (hbig:∀ p ∈ ps,p.to.size<9223372036854775808)
  (htab:Lib.TabIs Tryz.prog w "internal/strconv.uint64pow10" .u64 Lib.pow10Tab) (hF:FormsAt w) (hm:w.cell? ⟨5,0,none⟩=some (.int .i64 mx)) :
  Calls Tryz.prog 5 #[v,vc] w fun e w'=>e=.returned (.bool true)∧But [] w w':=by
 obtain ⟨q,c,rfl⟩:∃ q c,v=.slice q ps.length c:=by obtain ⟨a,cap,e,-⟩:=id hv;exact ⟨a,cap,e⟩
 obtain ⟨qc,cc,rfl⟩:∃ q c,vc=.slice q cs.length c:=by obtain ⟨a,cap,e,-⟩:=id hc;exact ⟨a,cap,e⟩
 by_cases h1:ps.length≤45∧cs.length≤100
 ·by_cases h2:(ps.length≤40∧TrOk (ps.map lnOf) ps.length)∧∀ p ∈ cs,ClOk p
  ·exact treatyAdds_ok q _ c ps qc _ cc cs mx w hv hc h1.1 h1.2 hf hbig h2 htab hF hm
  ·exact treatyAdds_err q _ c ps qc _ cc cs mx w hv hc h1.1 h1.2 hf hbig h2 htab hF hm
 ·exact treatyAdds_many q _ c qc _ cc w h1
end Go.Proofs.YtjbboicccddhbaaGreatDoor
