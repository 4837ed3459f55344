/- The law TreatyAdds where all may be: not -/
import Derived.Test.YtjbboicccddhbaaGreatDoorKPAV
import Derived.Test.YtjbboicccddhbaaGreatDoorKPAXc
namespace Go.Proofs.YtjbboicccddhbaaGreatDoor
open Go.RowKit Go.Shelf
set_option maxHeartbeats 64000000
set_option maxRecDepth 100000
set_option linter.unusedVariables false
theorem lnA_map (ps:List PL) (k:Nat) (h:k<ps.length):lnA (ps.map lnOf) k=lnOf ps[k]:=by
 unfold lnA
 rw [List.getD_eq_getElem?_getD,List.getElem?_map,List.getElem?_eq_getElem h]
 rfl
theorem lines_len (ps:List PL) (hf:∀ p ∈ ps,Fits (p.qu,p.qv)):∀ l ∈ ps.map lnOf,Len l.f 1:=fun l hl=>by
 obtain ⟨p,hp,rfl⟩:=List.mem_map.1 hl
 obtain ⟨_,_,_,h,-⟩:=plainF_at (p.qu,p.qv) (hf p hp)
 exact h
theorem treatyAdds_ok (q:Option Addr) (n c:Nat) (ps:List PL) (qc:Option Addr) (nc cc:Nat) (cs:List (Int × Int)) (mx:Int) (w:World) (hv:PLsAt w (.slice q n c) ps) (hc:ClAt w (.slice qc nc cc) cs) (hn:n≤45) (hnc:nc≤100) (hf:∀ p ∈ ps,Fits (p.qu,p.qv)) (hbig:∀ p ∈ ps,p.to.size<9223372036854775808) (hok:(n≤40∧TrOk (ps.map lnOf) n)∧∀ p ∈ cs,ClOk p)
  (htab:Lib.TabIs Tryz.prog w "internal/strconv.uint64pow10" .u64 Lib.pow10Tab) (hF:FormsAt w) (hm:w.cell? ⟨5,0,none⟩=some (.int .i64 mx)) :
  Calls Tryz.prog 5 #[.slice q n c,.slice qc nc cc] w fun e w'=>e=.returned (.bool true)∧But [] w w':=by
 have hnl:n=ps.length:=by
  obtain ⟨a,cap,e,-⟩:=hv
  simp only [Value.slice.injEq] at e
  exact e.2.1
 have hcl:nc=cs.length:=by
  obtain ⟨a,cap,e,-⟩:=hc
  simp only [Value.slice.injEq] at e
  exact e.2.1
 obtain ⟨ls,hls⟩:∃ ls,ls=ps.map lnOf:=⟨_,rfl⟩
 have hll:n=ls.length:=by rw [hls,List.length_map];exact hnl
 have hlok:∀ l ∈ ls,LnOk l:=fun l hl=>by
  obtain ⟨i,hi,rfl⟩:=List.getElem_of_mem hl
  rw [← hls] at hok
  exact (hok.1.2 i _ (by omega) (List.getElem?_eq_getElem hi)).1
 have TF:=hide (taf_all ls cs n nc hll hcl hnc hlok hok.2)
 have PT:=hide (plainTreaty_any q n c ps w hv hn hf)
 rw [← hls] at PT
 have AP:Hid (∀ W a c',But [] w W→LRow w.heap.size W (.slice a n c') ls→Calls Tryz.prog 27 #[.slice a n c',.slice qc nc cc] W fun e w'=>∃ gC gS gP,e=.returned (.tuple #[.agg #[.slice (some ⟨gC,0,none⟩) nc nc,.slice (some ⟨gS,0,none⟩) n n,.slice (some ⟨gP,0,none⟩) n n,.int .i64 (ntK ls (ntJ ls cs n nc) n)],.nilIface])∧ApOk ls cs n nc w' gC gS gP∧But [] W w'):=fun W a c' hb hl =>
  apply_ok a n c' ls qc nc cc cs W hl.lines (hc.but hb) hok.1.1 hnc (by rw [hls];exact lines_len ps hf) (fun l hl=>by
   rw [hls] at hl
   obtain ⟨p,hp,rfl⟩:=List.mem_map.1 hl
   exact hbig p hp) (by rw [hls];exact hok.1.2) hok.2
 have SHD:=hide (fun W (hb:But [] w W)=>shared_any mx W (TabIs.but htab hb) (hF.but hb) (hb.cell_some hm (by simp)))
 have PC:Hid (∀ k,k<n→∃ b off,q=some ⟨b,off,none⟩∧w.cell? ⟨b,off+k*8,none⟩=some (.int .i64 (lnA ls k).kd)∧w.cell? ⟨b,off+k*8+4,none⟩=some (.int .i64 (lnA ls k).li)):=fun k hk=>by
  obtain ⟨a,cap,e,-,h⟩:=hv
  simp only [Value.slice.injEq] at e
  obtain ⟨b,off,e1,c0,c1,c2,c3,c4,-⟩:=h k ps[k] (List.getElem?_eq_getElem (by omega))
  rw [hls,lnA_map ps k (by omega)]
  exact ⟨b,off,by rw [e.1];exact e1,c0,c4⟩
 have CC:Hid (∀ j,j<nc→∃ b off,qc=some ⟨b,off,none⟩∧w.cell? ⟨b,off+j*2+1,none⟩=some (.int .i64 (clA cs j).2)):=fun j hj=>by
  obtain ⟨a,cap,e,-,h⟩:=hc
  simp only [Value.slice.injEq] at e
  obtain ⟨b,off,e1,c0,c1⟩:=h j _ (clA_get (cs:=cs) (k:=j) (by omega)).1
  exact ⟨b,off,by rw [e.1];exact e1,c1⟩
 have HLL:=hide hll
 clear hv hc hf hbig hok htab hF hm hnl hcl hls hlok hll
 go_enter Tryz.func5,Tryz.ntmps5
 go_wp2_with fail
 refine (unhide PT).mono ?_
 rintro e w1 ⟨v,rfl,hl,hb1⟩
 obtain ⟨a,c',rfl⟩:=hl.form
 rw [← unhide HLL] at hl ⊢
 have AP1:=hide (unhide AP w1 a c' hb1 hl)
 have B1:=hide hb1
 clear hl hb1 PT AP
 go_wp2_with fail
 refine (unhide AP1).mono ?_
 rintro e w2 ⟨gC,gS,gP,rfl,hA,hb2⟩
 obtain ⟨NF,hNF⟩:∃ NF,NF=ntK ls (ntJ ls cs n nc) n:=⟨_,rfl⟩
 rw [← hNF]
 have HNF:=hide hNF
 have bB:But [] w2 (w2.alloc (.cells #[.slice (some ⟨gC,0,none⟩) nc nc,.slice (some ⟨gS,0,none⟩) n n,.slice (some ⟨gP,0,none⟩) n n,.int .i64 NF] 55)):=(But.refl [] w2).alloc _
 have D5:=hide (NewB.made 0 w2 [.slice (some ⟨gC,0,none⟩) nc nc,.slice (some ⟨gS,0,none⟩) n n,.slice (some ⟨gP,0,none⟩) n n,.int .i64 NF] 55 (Nat.zero_le _))
 have B2:=hide (((unhide B1).trans' hb2).trans' bB)
 have BB:=hide bB
 have HA:=hide hA
 clear hA hb2 bB B1 AP1 hNF
 go_wp2_with fail
 refine (unhide SHD _ (unhide B2)).mono ?_
 rintro e V ⟨rfl,hb3⟩
 have B3:=hide ((unhide B2).trans' hb3)
 have d5:=(unhide D5).but hb3
 have r0:=d5.cells 0 _ rfl
 have r1:=d5.cells 1 _ rfl
 have r2:=d5.cells 2 _ rfl
 have r3:=d5.cells 3 _ rfl
 have b23:=(unhide BB).trans' hb3
 have PD:Hid (∀ j,j<nc→∃ sh,V.cell? ⟨gC,j*2,none⟩=some (.slice (some ⟨sh,0,none⟩) n n)∧V.cell? ⟨gC,j*2+1,none⟩=some (.int .i64 (LJ ls cs n j))∧∀ i,i<n→V.cell? ⟨sh,i,none⟩=some (.int .i64 (SJ ls cs j i))):=fun j hj=>by
  obtain ⟨sh,p0,p1,p2⟩:=(unhide HA).paid j hj
  exact ⟨sh,b23.cell_some p0 (by simp),b23.cell_some p1 (by simp),fun i hi=>b23.cell_some (p2 i hi) (by simp)⟩
 have ST:Hid (∀ i,i<n→V.cell? ⟨gS,i,none⟩=some (.int .i64 (spK ls (ntJ ls cs n nc) i))):=fun i hi=>b23.cell_some ((unhide HA).stops i hi) (by simp)
 have PM:Hid (∀ i,i<n→∃ z:Int,0≤z∧V.cell? ⟨gP,i,none⟩=some (.int .i64 z)):=fun i hi=>by
  obtain ⟨z,z0,hz⟩:=(unhide HA).prem i hi
  exact ⟨z,z0,b23.cell_some hz (by simp)⟩
 have PC2:Hid (∀ k,k<n→∃ b off,q=some ⟨b,off,none⟩∧V.cell? ⟨b,off+k*8,none⟩=some (.int .i64 (lnA ls k).kd)∧V.cell? ⟨b,off+k*8+4,none⟩=some (.int .i64 (lnA ls k).li)):=fun k hk=>by
  obtain ⟨b,off,e,c0,c1⟩:=unhide PC k hk
  exact ⟨b,off,e,(unhide B3).cell_some c0 (by simp),(unhide B3).cell_some c1 (by simp)⟩
 have CC2:Hid (∀ j,j<nc→∃ b off,qc=some ⟨b,off,none⟩∧V.cell? ⟨b,off+j*2+1,none⟩=some (.int .i64 (clA cs j).2)):=fun j hj=>by
  obtain ⟨b,off,e,c1⟩:=unhide CC j hj
  exact ⟨b,off,e,(unhide B3).cell_some c1 (by simp)⟩
 generalize w2.heap.size=g5 at r0 r1 r2 r3 ⊢
 clear hb3 d5 b23 HA D5 B2 BB PC CC SHD
 obtain ⟨AA,hAA⟩:∃ AA,AA=AJ cs:=⟨_,rfl⟩
 obtain ⟨TT,hTT⟩:∃ TT,TT=TJ ls cs n:=⟨_,rfl⟩
 obtain ⟨SP,hSP⟩:∃ SP,SP=spK ls (ntJ ls cs n nc):=⟨_,rfl⟩
 have HAA:=hide hAA
 have HTT:=hide hTT
 have HSP:=hide hSP
 rw [← hSP] at ST
 clear hAA hTT hSP
 have A0:AA 0=0:=by rw [unhide HAA];rfl
 have T0:TT 0=0:=by rw [unhide HTT];rfl
 have HA0:=hide A0
 have HT0:=hide T0
 clear A0 T0
 go_wp2
 go_loopw [7,8,9] (fun al bo i wr=>∃ j:Nat,j≤nc∧i=.int .i64 (j:Int)∧(∃ x:Int,al=.int .i64 x∧Hid (x=AA j))∧(∃ y:Int,bo=.int .i64 y∧Hid (y=TT j))∧wr=V) (fun _ _ i _=>nc-(intOf i).toNat)
 case atStart=>exact ⟨0,Nat.zero_le _,rfl,⟨0,rfl,(unhide HA0).symm⟩,⟨0,rfl,(unhide HT0).symm⟩,rfl⟩
 case round =>
  obtain ⟨j,hj,rfl,⟨x,rfl,HX⟩,⟨y,rfl,HY⟩,hwr⟩:=hrel
  have hwr2:=hwr.symm
  subst hwr2
  by_cases hlt:j<nc
  ·obtain ⟨sh,p0,p1,p2⟩:=unhide PD j hlt
   obtain ⟨bc,oc,rfl,cm⟩:=unhide CC2 j hlt
   obtain ⟨am,ham⟩:∃ am,am=(clA cs j).2:=⟨_,rfl⟩
   obtain ⟨lj,hlj⟩:∃ lj,lj=LJ ls cs n j:=⟨_,rfl⟩
   obtain ⟨SS,hSS⟩:∃ SS,SS=SJ ls cs j:=⟨_,rfl⟩
   have tc:=(unhide TF).c j hlt
   have ta:=(unhide TF).a j (by omega)
   have ta2:=(unhide TF).a (j+1) (by omega)
   have tb:=(unhide TF).b j hlt
   have td:=(unhide TF).d j hlt
   have eA:AA (j+1)=AA j+am:=by rw [unhide HAA,ham];rfl
   have eT:TT (j+1)=TT j+sS SS n:=by rw [unhide HTT,hSS];rfl
   rw [← ham] at cm tc
   rw [← hlj] at p1 tc
   rw [← hSS] at tc tb td
   simp only [← hSS] at p2
   rw [← unhide HAA,← unhide HTT] at ta ta2
   have hx0:=unhide HX
   have hy0:=unhide HY
   have hj0:0≤lj:=tc.1.1
   have hj0':¬ lj<0:=by omega
   obtain ⟨x2,hx2⟩:∃ x2,x+am=x2:=⟨_,rfl⟩
   have HX2:Hid (x2=AA (j+1)):=by show _=_;omega
   have bx2:-9223372036854775808≤x+am∧x+am<9223372036854775808:=by omega
   have P2:=hide p2
   have TB:=hide tb
   have TD:=hide td
   have TC:=hide tc
   have TA:=hide ta
   have ET:=hide eT
   have HSS:=hide hSS
   clear p2 tc ta ta2 tb td eA eT hx0 hy0 ham hlj hSS HX
   go_wp2
   go_loopw [8,10,11] (fun bo s i wr=>∃ k:Nat,k≤n∧i=.int .i64 (k:Int)∧(∃ y2:Int,bo=.int .i64 y2∧Hid (y2=y+sS SS k))∧(∃ z:Int,s=.int .i64 z∧Hid (z=lj+sS SS k))∧wr=V) (fun _ _ i _=>n-(intOf i).toNat)
   case atStart=>exact ⟨0,Nat.zero_le _,rfl,⟨y,rfl,by show y=y+0;omega⟩,⟨lj,rfl,by show lj=lj+0;omega⟩,rfl⟩
   case round =>
    obtain ⟨k,hk,rfl,⟨y2,rfl,HY2⟩,⟨z,rfl,HZ⟩,hwr⟩:=hrel
    have hwr2:=hwr.symm
    subst hwr2
    by_cases hkn:k<n
    ·have cs0:=unhide P2 k hkn
     obtain ⟨bq,oq,rfl,q0,q4⟩:=unhide PC2 k hkn
     obtain ⟨sk,hsk⟩:∃ sk,sk=SS k:=⟨_,rfl⟩
     obtain ⟨kk,hkk⟩:∃ kk,kk=(lnA ls k).kd:=⟨_,rfl⟩
     obtain ⟨li,hli⟩:∃ li,li=(lnA ls k).li:=⟨_,rfl⟩
     have td:=unhide TD k hkn
     have tb:=unhide TB k (by omega)
     have tb2:=unhide TB (k+1) (by omega)
     have eS:sS SS (k+1)=sS SS k+sk:=by rw [hsk];rfl
     rw [← hsk] at cs0 td
     rw [← hkk] at q0 td
     rw [← hli] at q4 td
     have hy2:=unhide HY2
     have hz:=unhide HZ
     have hyy:=unhide HY
     have htc:=unhide TC
     have hta:=unhide TA
     have s0:¬ sk<0:=by omega
     obtain ⟨z2,hz2⟩:∃ z2,z+sk=z2:=⟨_,rfl⟩
     obtain ⟨y3,hy3⟩:∃ y3,y2+sk=y3:=⟨_,rfl⟩
     have bz:-9223372036854775808≤z+sk∧z+sk<9223372036854775808:=by omega
     have by3:-9223372036854775808≤y2+sk∧y2+sk<9223372036854775808:=by omega
     have HZ2:Hid (z2=lj+sS SS (k+1)):=by show _=_;omega
     have HY3:Hid (y3=y+sS SS (k+1)):=by show _=_;omega
     by_cases h3:kk=3
     ·have h3b:(kk==3)=true:=by rw [h3];rfl
      have hle:¬ li<sk:=by have:=td.2.2 h3;omega
      clear td tb tb2 eS hy2 hz hyy htc hta hsk hkk hli h3 HY2 HZ
      go_wp2
      exact ⟨⟨k+1,by omega,by go_num,⟨y3,rfl,unhide HY3⟩,⟨z2,rfl,unhide HZ2⟩,by trivial⟩,by simp [intOf];omega⟩
     ·have h3b:(kk==3)=false:=beq_eq_false_iff_ne.2 h3
      clear td tb tb2 eS hy2 hz hyy htc hta hsk hkk hli h3 HY2 HZ
      go_wp2
      exact ⟨⟨k+1,by omega,by go_num,⟨y3,rfl,unhide HY3⟩,⟨z2,rfl,unhide HZ2⟩,by trivial⟩,by simp [intOf];omega⟩
    ·obtain rfl:k=n:=by omega
     have hz:=unhide HZ
     have htc:=unhide TC
     obtain rfl:z=am:=by omega
     have HY4:Hid (y2=TT (j+1)):=by
      have h1:=unhide HY2
      have h2:=unhide HY
      have h3:=unhide ET
      show _=_
      omega
     clear hz htc
     go_wp2
     exact ⟨⟨j+1,by omega,by go_num,⟨x2,rfl,unhide HX2⟩,⟨y2,rfl,unhide HY4⟩,by trivial⟩,by simp [intOf];omega⟩
  ·obtain rfl:j=nc:=by omega
   have HXA:=hide ((unhide HX).trans (congrFun (unhide HAA) j))
   have HYT:=hide ((unhide HY).trans (congrFun (unhide HTT) j))
   go_wp2
   go_loopw [8,13] (fun bo i wr=>∃ k:Nat,k≤n∧i=.int .i64 (k:Int)∧(∃ y2:Int,bo=.int .i64 y2∧Hid (y2=y+sS SP k))∧wr=V) (fun _ i _=>n-(intOf i).toNat)
   case atStart=>exact ⟨0,Nat.zero_le _,rfl,⟨y,rfl,by show y=y+0;omega⟩,rfl⟩
   case round =>
    obtain ⟨k,hk,rfl,⟨y2,rfl,HY2⟩,hwr3⟩:=hrel
    have hwr4:=hwr3.symm
    subst hwr4
    have ta:=(unhide TF).a j (Nat.le_refl _)
    have te:=(unhide TF).e
    rw [← unhide HSP] at te
    have hy:=unhide HYT
    by_cases hkn:k<n
    ·have cs0:=unhide ST k hkn
     obtain ⟨pz,pz0,pzc⟩:=unhide PM k hkn
     obtain ⟨bq,oq,rfl,q0,-⟩:=unhide PC2 k hkn
     have tf:=(unhide TF).f k hkn
     rw [← unhide HSP] at tf
     obtain ⟨sk,hsk⟩:∃ sk,sk=SP k:=⟨_,rfl⟩
     obtain ⟨kk,hkk⟩:∃ kk,kk=(lnA ls k).kd:=⟨_,rfl⟩
     have te1:=te k hk
     have te2:=te (k+1) (by omega)
     have eS:sS SP (k+1)=sS SP k+sk:=by rw [hsk];rfl
     rw [← hsk] at cs0 tf
     rw [← hkk] at q0 tf
     have hy2:=unhide HY2
     have s0:¬ sk<0:=by omega
     have p0:¬ pz<0:=by omega
     obtain ⟨y3,hy3⟩:∃ y3,y2+sk=y3:=⟨_,rfl⟩
     have by3:-9223372036854775808≤y2+sk∧y2+sk<9223372036854775808:=by omega
     have HY3:Hid (y3=y+sS SP (k+1)):=by show _=_;omega
     by_cases h4:kk=4
     ·subst h4
      clear tf te te1 te2 eS hy2 hy ta hsk hkk HY2
      go_wp2
      all_goals exact ⟨⟨k+1,by omega,by go_num,⟨y3,rfl,unhide HY3⟩,by trivial⟩,by simp [intOf];omega⟩
     ·have h4b:(kk==4)=false:=beq_eq_false_iff_ne.2 h4
      obtain rfl:sk=0:=tf.2.2 h4
      clear tf te te1 te2 eS hy2 hy ta hsk hkk HY2
      go_wp2
      all_goals exact ⟨⟨k+1,by omega,by go_num,⟨y3,rfl,unhide HY3⟩,by trivial⟩,by simp [intOf];omega⟩
    ·obtain rfl:k=n:=by omega
     have tg:=(unhide TF).g
     have th:=(unhide TF).h
     rw [← unhide HSP,← unhide HNF] at tg
     rw [← unhide HNF] at th
     have te1:=te k (Nat.le_refl _)
     have hy2:=unhide HY2
     have hx:=unhide HXA
     have hfin:y2+NF=x:=by omega
     have hn0:0≤NF:=th.1
     have hbf:-9223372036854775808≤y2+NF∧y2+NF<9223372036854775808:=by omega
     clear tg th te te1 hy2 hx hy ta HY2 HXA HYT HX HY
     go_wp2
     exact bodyPost_ret (v:=.bool true) (by simp [results,Tryz.results5,go_sem]) rfl ⟨rfl,unhide B3⟩
end Go.Proofs.YtjbboicccddhbaaGreatDoor
