/- The law TreatyWrites, whatever lines are -/
import Derived.Test.YtjlfllhedceigaaGreatDoorRBE
import Derived.Test.YtjlfllhedceigaaGreatDoorRTWn
namespace Go.Proofs.YtjlfllhedceigaaGreatDoor
open Go.Proofs.Tryz
open Go.RowKit Go.Shelf
set_option maxHeartbeats 32000000
set_option maxRecDepth 100000
set_option linter.unusedVariables false
theorem ztb (ps:List PL) (hf:∀ p ∈ ps,Fits (p.qu,p.qv)):∀ l ∈ ps.map ug,Len l.f 1:=fun l hl=>by
 obtain⟨p,hp,rfl⟩:=List.mem_map.1 hl
 obtain⟨_,_,_,h,-⟩:=zmt (p.qu,p.qv) (hf p hp)
 exact h
theorem zvq (w:World):Calls prog 11 #[.nilIface] w fun e w'=>e=.returned (.int .i64 0)∧But [] w w':=by(
 go_enter func11,ntmps11
 go_wp2
 go_ret
 exact⟨rfl,But.refl _ _⟩)
theorem zvr (z:Int) (w:World) (herr:w.cell? ⟨0,0,none⟩=some (.iface 267 (.agg #[.pointer (some ⟨12,29,none⟩)]))) :
   Calls prog 11 #[zei z] w fun e w'=>e=.returned (.int .i64 z)∧But [] w w':=by(
 unfold zei
 by_cases h:z=0
 ·rw[if_pos h,h];exact zvq w
 ·rw[if_neg h];exact zrp z w herr)
theorem zga (q:Option Addr) (n c:Nat) (ps:List PL) (mx:Int) (w:World) (hv:zid w (.slice q n c) ps) (hn:n≤60) (hf:∀ p ∈ ps,Fits (p.qu,p.qv)) (hbig:∀ p ∈ ps,p.toB.size<9223372036854775808)
   (htab:Lib.TabIs prog w "internal/strconv.uint64pow10" .u64 Lib.pow10Tab) (hF:uo w) (hm:w.cell? ⟨3,0,none⟩=some (.int .i64 mx)) (herr:w.cell? ⟨0,0,none⟩=some (.iface 267 (.agg #[.pointer (some ⟨12,29,none⟩)]))) :
   Calls prog 5 #[.slice q n c] w fun e w'=>e=.returned (.bool true)∧But [] w w':=by(
 have hnl:n=ps.length:=by
  obtain⟨a,cap,e,-⟩:=hv
  simp only[Value.slice.injEq] at e
  exact e.2.1
 obtain⟨ls,hls⟩:∃ ls,ls=ps.map ug:=⟨_,rfl⟩
 have hll:n=ls.length:=by rw[hls,List.length_map];exact hnl
 have lf:∀ l ∈ ls,Len l.f 1:=by rw[hls];exact ztb ps hf
 have hbg:∀ l ∈ ls,l.toB.size<9223372036854775808:=fun l hl=>by
  rw[hls] at hl
  obtain⟨p,hp,rfl⟩:=List.mem_map.1 hl
  exact hbig p hp
 have PT:=af (zii q n c ps w hv hn hf)
 rw[← hls] at PT
 have RL:Hid (∀ W,But [] w W→Calls prog 19 #[.slice q n c] W fun e w'=>∃ v us,e=.returned v∧zdq w' W.heap.size v ls us∧But [] W w'):=fun W hb=>by
  rw[hls]
  exact znx q n c ps W (hv.but hb) hn hf
 obtain⟨S,hS⟩:∃ S:ByteArray,S=(if txE ls=0 then (⟨(txL ls n).toArray⟩:ByteArray) else ⟨#[]⟩):=⟨_,rfl⟩
 have hS2:S=(if rxE ls=0 then rtL fB iB ls n else ⟨#[]⟩):=by rw[hS,hll];exact (qeu ls).symm
 obtain⟨Z,hZ⟩:∃ Z,Z=txE ls:=⟨_,rfl⟩
 have hZ2:Z=rxE ls:=hZ.trans (zyw ls).symm
 have TX:Hid (∀ W a c',But [] w W→zdc w.heap.size W (.slice a n c') ls→Calls prog 23 #[.slice a n c'] W fun e w'=>e=.returned (.tuple #[.string S,zei Z])∧But [] W w'):=fun W a c' hb hl=>by
  have h:=zlp a n c' ls mx W hl.lines lf hbg (fun ⟨_,htr⟩ l hl=>by
   obtain⟨i,hi,rfl⟩:=List.getElem_of_mem hl
   exact zyi _ (htr i _ (by omega) (List.getElem?_eq_getElem hi)).1 (lf _ hl)) (TabIs.but htab hb) (hF.but hb) (hb.ag hm (by simp))
  rw[← hS,← hZ] at h
  exact h
 have RT:Hid (∀ W a c',But [] w W→zic W (.slice a n c') ls→Calls prog 24 #[.slice a n c'] W fun e w'=>e=.returned (.tuple #[.string S,.int .i64 Z])∧But [] W w'):=fun W a c' hb hl=>by
  have h:=zey fB iB a n c' ls W hl (fun l hl=>(zqn (lf l hl)).mono (by omega)) hbg
   (fun l hl zb V hV hz=>zpy zb l.f V hz ((zqn (lf l hl)).mono (by omega)) (fB l.f) ((qkn l.f).trans (zyh l.f))) (fun l hl=>qdp l.f (lf l hl))
   (fun z V h0 h1 hV=>zfl z h0 (by omega) V (TabIs.but htab (hb.trans' hV))) (fun z h0 h1=>qdj z h0 h1)
  rw[← hS2,← hZ2] at h
  exact h
 have TE:Hid (∀ W,But [] w W→Calls prog 11 #[zei Z] W fun e w'=>e=.returned (.int .i64 Z)∧But [] W w'):=fun W hb=>zvr Z W (hb.ag herr (by simp))
 have HLL:=af hll
 clear hv hf hbig hbg lf htab hF hm herr hnl hls hll hS hS2 hZ hZ2
 go_enter func5,ntmps5
 go_wp2_with fail
 refine (ae PT).mono ?_
 rintro e w1 ⟨v,rfl,hl,hb1⟩
 obtain⟨a,c',rfl⟩:=hl.form
 rw[← ae HLL] at hl ⊢
 have TX1:=af (ae TX w1 a c' hb1 hl)
 have B1:=af hb1
 clear hl hb1 PT TX
 go_wp2_with fail
 refine (ae TX1).mono ?_
 rintro e w2 ⟨rfl,hb2⟩
 have B2:=af ((ae B1).trans' hb2)
 clear hb2 B1 TX1
 dsimp only
 go_wp2_with fail
 refine (ae RL _ (ae B2)).mono ?_
 rintro e w3 ⟨v3,us,rfl,ho,hb3⟩
 obtain⟨a3,c3,rfl⟩:∃ a3 c3,v3=.slice a3 n c3:=by
  obtain⟨a3,c3,e,-⟩:=ho.lines
  exact⟨a3,c3,by rw[e,ae HLL]⟩
 have B3:=af ((ae B2).trans' hb3)
 have RT1:=af (ae RT _ _ _ (ae B3) ho.lines)
 clear ho hb3 B2 RL RT
 dsimp only
 go_wp2_with fail
 refine (ae RT1).mono ?_
 rintro e w4 ⟨rfl,hb4⟩
 have B4:=af ((ae B3).trans' hb4)
 clear hb4 B3 RT1
 dsimp only
 go_wp2_with fail
 refine (ae TE _ (ae B4)).mono ?_
 rintro e w5 ⟨rfl,hb5⟩
 have B5:=af ((ae B4).trans' hb5)
 clear hb5 B4 TE
 dsimp only
 go_wp2
 go_ret
 exact⟨by simp,ae B5⟩)
theorem zep (q:Option Addr) (n c:Nat) (w:World) (h:60<n) :
   Calls prog 5 #[.slice q n c] w fun e w'=>e=.returned (.bool true)∧But [] w w':=by(
 go_enter func5,ntmps5
 go_wp2
 go_ret
 exact⟨rfl,But.refl _ _⟩)
theorem zgb (v:Value) (ps:List PL) (mx:Int) (w:World) (hv:zid w v ps) (hf:∀ p ∈ ps,Fits (p.qu,p.qv)) (hbig:∀ p ∈ ps,p.toB.size<9223372036854775808)
   (htab:Lib.TabIs prog w "internal/strconv.uint64pow10" .u64 Lib.pow10Tab) (hF:uo w) (hm:w.cell? ⟨3,0,none⟩=some (.int .i64 mx)) (herr:w.cell? ⟨0,0,none⟩=some (.iface 267 (.agg #[.pointer (some ⟨12,29,none⟩)]))) :
   Calls prog 5 #[v] w fun e w'=>e=.returned (.bool true)∧But [] w w':=by(
 obtain⟨q,c,rfl⟩:∃ q c,v=.slice q ps.length c:=by obtain⟨a,cap,e,-⟩:=id hv;exact⟨a,cap,e⟩
 by_cases h1:ps.length≤60
 ·exact zga q _ c ps mx w hv h1 hf hbig htab hF hm herr
 ·exact zep q _ c w (by omega))
end Go.Proofs.YtjlfllhedceigaaGreatDoor
