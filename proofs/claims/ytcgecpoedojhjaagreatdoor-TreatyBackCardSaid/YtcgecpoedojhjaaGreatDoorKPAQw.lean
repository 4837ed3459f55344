/- Who bears what of a claim: the walk.  -/
import Derived.Test.YtcgecpoedojhjaaGreatDoorKPAQ
namespace Go.Proofs.YtcgecpoedojhjaaGreatDoor
open Go.Proofs.Tryz
open Go.RowKit
set_option maxHeartbeats 16000000
set_option maxRecDepth 100000
theorem zvf (q:Option Addr) (n c:Nat) (ls:List Ln) (sm am:Int) (gb:Nat) (bs:Nat→Int) (w:World) (hv:bn w (.slice q n c) ls) (hn:n≤40) (lf:∀ l ∈ ls,Len l.f 1) (hok:∀ l ∈ ls,di l) (h1:1≤sm∧sm≤1000000000000) (h2:0≤am∧am≤sm) (hb:ah w gb n bs) (hbs:qjg ls bs n 100000000000000) (hq:0<n→∀ b off,q=some ⟨b,off,none⟩→b≠gb) :
  Calls prog 29 #[.slice q n c,.agg #[.int .i64 sm,.int .i64 am],.slice (some ⟨gb,0,none⟩) n n] w fun e w'=>∃ sh,e=.returned (.agg #[.slice (some ⟨sh,0,none⟩) n n,.int .i64 (lfF ls sm am bs n)])∧zng w.heap.size w' sh gb n (ssF ls sm am bs) (fun i=>bs i+ssF ls sm am bs i)∧But [gb] w w':=by
 have hnl:n=ls.length:=by
  obtain⟨a,cap,e,-⟩:=hv
  simp only[Value.slice.injEq] at e
  exact e.2.1
 have LR:=hide (zej ls sm am bs n 100000000000000 hnl hok h1.1 h2.1 hbs)
 have SRG:=hide (zoq ls sm am bs n 100000000000000 hnl hok h1.1 h2.1 hbs)
 have HV:=hide hv
 have HL:=hide lf
 have HOK:=hide hok
 have HBR:=hide hb
 have HBS:=hide hbs
 have HQ:=hide hq
 have HNL:=hide hnl
 have hgb:=hb.lt
 obtain⟨S,hS⟩:∃ S,S=ssF ls sm am bs:=⟨_,rfl⟩
 obtain⟨Lf,hLf⟩:∃ Lf,Lf=lfF ls sm am bs:=⟨_,rfl⟩
 rw[← hS,← hLf]
 have HS:=hide hS
 have HLF:=hide hLf
 clear hv lf hok hb hbs hq hnl hS hLf
 have HL0:Hid (Lf 0=am):=by show _=_;rw[za HLF];rfl
 have HLS:Hid (∀ k,Lf (k+1)=Lf k-S k):=fun k=>by rw[za HLF,za HS];rfl
 rw[← za HLF] at LR
 rw[← za HS] at SRG
 have bA:But [] w ((w.alloc (.cells #[.int .i64 sm,.int .i64 am] 62)).alloc (.cells #[.slice none 0 0,.int .i64 0] 65)):=((But.refl [] w).alloc _).alloc _
 have BA:=hide bA
 have k0:((w.alloc (.cells #[.int .i64 sm,.int .i64 am] 62)).alloc (.cells #[.slice none 0 0,.int .i64 0] 65)).cell? ⟨w.heap.size,0,none⟩=some (.int .i64 sm):=by simp
 have k1:((w.alloc (.cells #[.int .i64 sm,.int .i64 am] 62)).alloc (.cells #[.slice none 0 0,.int .i64 0] 65)).cell? ⟨w.heap.size,1,none⟩=some (.int .i64 am):=by simp
 have j0:((w.alloc (.cells #[.int .i64 sm,.int .i64 am] 62)).alloc (.cells #[.slice none 0 0,.int .i64 0] 65)).cell? ⟨w.heap.size+1,0,none⟩=some (.slice none 0 0):=by simp
 have j1:((w.alloc (.cells #[.int .i64 sm,.int .i64 am] 62)).alloc (.cells #[.slice none 0 0,.int .i64 0] 65)).cell? ⟨w.heap.size+1,1,none⟩=some (.int .i64 0):=by simp
 have jf:∀ j,((w.alloc (.cells #[.int .i64 sm,.int .i64 am] 62)).alloc (.cells #[.slice none 0 0,.int .i64 0] 65)).frozen? ⟨w.heap.size+1,j,none⟩=false:=fun j=>by simp
 have J:=hide (And.intro k0 (And.intro k1 (And.intro j0 (And.intro j1 jf))))
 have sV:((w.alloc (.cells #[.int .i64 sm,.int .i64 am] 62)).alloc (.cells #[.slice none 0 0,.int .i64 0] 65)).heap.size=w.heap.size+2:=by simp
 have SV:=hide sV
 clear bA k0 k1 j0 j1 jf sV
 go_enter func29,ntmps29
 go_wp2
 generalize ((w.alloc (.cells #[.int .i64 sm,.int .i64 am] 62)).alloc (.cells #[.slice none 0 0,.int .i64 0] 65))=V at *
 refine zlg 1 _ _ V q n c w.heap.size am (by simp) (by simp[Act.eval]) (by simp[Act.eval]) (by omega) (za J).2.1 ?_
 intro gs g7 w1 hP
 simp only[qx,List.foldl_cons,List.foldl_nil,Act.put,List.setIfInBounds_toArray,List.set_cons_zero,List.set_cons_succ]
 have P0:Hid (PG w gb gs g7 w.heap.size (w.heap.size+1) n sm (SR S 0) (BR S bs 0) (Lf 0) (w1.setCells g7 0 [.slice (some ⟨gs,0,none⟩) n n,.int .i64 am])):=by
  obtain⟨m0,m1,m2,m3,m4⟩:=za J
  have sv:=za SV
  have hput:=(hP.f6 rfl).put (us:=[.slice (some ⟨gs,0,none⟩) n n,.int .i64 am]) rfl
  have hb:=zy w1 g7 [.slice (some ⟨gs,0,none⟩) n n,.int .i64 am] 0
  have hs2:=(hP.f2 rfl).new
  have hs6:=(hP.f6 rfl).new
  have hbw:=(za BA).trans' hP.mem
  have hx:=hP.x2_6 rfl rfl
  have eS:SR S 0=fun _=>0:=by funext i;simp[SR]
  have eB:BR S bs 0=bs:=by funext i;simp[BR]
  rw[eS,eB,za HL0]
  exact { fr:=(hbw.of_nil (l:=[gb])).trans hb (fun x hx=>by simp at hx;subst hx;exact .inr (by omega)),sh:=(hP.f2 rfl).row.but hb (by simpa using hx),bo:=((za HBR).but hbw (by simp)).but hb (by simp;omega),c0:=hput.cells 0 _ rfl,c1:=hput.cells 1 _ rfl,f7:=hput.loose,cs:=hb.zb (hP.mem.zb m0 (by simp)) (by simp;omega),d0:=hb.zb (hP.mem.zb m2 (by simp)) (by simp;omega),d1:=hb.zb (hP.mem.zb m3 (by simp)) (by simp;omega),f6:=fun j=>(hb.frozen (p:=⟨w.heap.size+1,j,none⟩) (show w.heap.size+1<_ from lt_of_cell (hP.mem.zb m2 (by simp))) (by simp;omega)).trans ((hP.mem.frozen (p:=⟨w.heap.size+1,j,none⟩) (show w.heap.size+1<_ from lt_of_cell m2) (by simp)).trans (m4 j)),nsb:=by omega,n7b:=by omega,n7s:=hx.symm,n4b:=by omega,n4s:=by omega,n47:=by omega,n6b:=by omega,n6s:=by omega,n67:=by omega,os:=by omega,o7:=by omega,o6:=by omega }
 generalize w1.setCells g7 0 [.slice (some ⟨gs,0,none⟩) n n,.int .i64 am]=U at *
 clear hP J SV BA HBR
 go_wp2
 go_loopw [18] (fun i wr=>∃ k:Nat,k≤n∧i=.int .i64 (k:Int)∧Hid (PG w gb gs g7 w.heap.size (w.heap.size+1) n sm (SR S k) (BR S bs k) (Lf k) wr)) (fun i _=>n-(intOf i).toNat)
 case atStart=>exact⟨0,Nat.zero_le _,rfl,za P0⟩
 case round =>
  obtain⟨k,hk,rfl,HI⟩:=hrel
  rename World=>wr
  clear P0
  by_cases hlt:k<n
  ·have hkl:k<ls.length:=by have:=za HNL;omega
   obtain⟨hge,hmem⟩:=zei hkl
   have hvr:=(za HV).other (za HL) (za HI).fr (fun b off e=>by simpa using za HQ (by omega) b off e)
   obtain⟨a',cap',ea,-,hc⟩:=hvr
   simp only[Value.slice.injEq] at ea
   obtain⟨rfl,-,rfl⟩:=ea
   obtain⟨b,off,rfl,s,x,y,p,⟨c0,c1,c2,c3,c4,c5,c6,c7,c8,c9⟩,hf⟩:=hc k _ hge
   have hl1:=za HL _ hmem
   have ho1:=za HOK _ hmem
   have hr1:=za LR k hk
   have hr2:=za LR (k+1) (by omega)
   have hr3:=za SRG k hlt
   have hbk:=za HBS k hlt
   have hSk:S k=brI (lnA ls k) sm (Lf k) (bs k):=by rw[za HS,za HLF];rfl
   have hLk:=za HLS k
   obtain⟨l,hl⟩:∃ l,l=lnA ls k:=⟨_,rfl⟩
   rw[← hl] at c0 c5 c6 c7 c8 c9 hf hl1 ho1 hSk
   have HF:=hide hf
   have HL1:=hide hl1
   have HO1:=hide ho1
   have HSK:=hide hSk
   have bB:But [] wr (wr.alloc (.cells #[.int .i64 l.kd,.bool s,.int .u64 x,.int .u64 y,.pointer p,.int .i64 l.fr,.int .i64 l.li,.int .i64 l.ti,.int .i64 l.pr,.string l.to] 37)):=(But.refl [] wr).alloc _
   have X9:=hide (bf.new wr l.kd s x y p l.fr l.li l.ti l.pr l.to)
   have HJ:=hide ((za HI).but bB)
   have BB:=hide bB
   have R1:=hide hr1
   have R2:=hide hr2
   have R3:=hide hr3.1
   have R4:=hide hr3.2.1
   have RB:=hide hbk
   have HLK:=hide hLk
   clear hge hmem hc hl1 ho1 hr1 hr2 hr3 hbk hSk hLk hl hf bB
   go_wp2
   generalize wr.alloc (.cells #[.int .i64 l.kd,.bool s,.int .u64 x,.int .u64 y,.pointer p,.int .i64 l.fr,.int .i64 l.li,.int .i64 l.ti,.int .i64 l.pr,.string l.to] 37)=V1 at *
   generalize wr.heap.size=g9 at X9 ⊢
   have cx:V1.cell? ⟨gb,k,none⟩=some (.int .i64 (bs k)):=by have:=(za HJ).bo.cells k hlt;rw[show BR S bs k k=bs k by simp[BR]] at this;exact this
   have cz:V1.cell? ⟨gs,k,none⟩=some (.int .i64 0):=by have:=(za HJ).sh.cells k hlt;rw[show SR S k k=0 by simp[SR]] at this;exact this
   refine zlf 5 _ _ V1 g7 w.heap.size g9 gs gb n k l.kd s x y p l.fr l.li l.ti l.pr l.to sm (Lf k) (bs k) (S k) _ (by simp) (by simp[Act.eval]) (by simp[Act.eval]) (by simp[Act.eval]) (by simp[Act.eval]) (by simp[Act.eval]) hlt (by omega) (za HJ).c0 (za HJ).c1 (za HJ).cs cx (za X9) cz ((za HJ).sh.loose k) (fun W hb=>by
    have h:=bears_any l s x y p sm (Lf k) (bs k) W ((za HF).but ((za BB).trans' hb)) (za HL1) (za HO1) h1 (by have:=za R1;omega) (by have:=za RB;omega)
    rw[← za HSK] at h
    exact h) ?_
   intro w2 hP5
   simp only[qx,List.foldl_cons,List.foldl_nil,Act.put,List.setIfInBounds_toArray,List.set_cons_zero,List.set_cons_succ]
   have HA:=((za HJ).but hP5.mem).qpb k hlt (S k)
   rw[zxz] at HA
   have HA':=hide HA
   generalize w2.setCell ⟨gs,k,none⟩ (.int .i64 (S k))=V2 at *
   clear HA hP5 cx cz X9 HJ BB HF c0 c1 c2 c3 c4 c5 c6 c7 c8 c9 HI
   go_wp2
   have cy:V2.cell? ⟨gs,k,none⟩=some (.int .i64 (S k)):=by have:=(za HA').sh.cells k hlt;rw[show SR S (k+1) k=S k by simp[SR]] at this;exact this
   refine zle 6 _ _ V2 g7 gs n k (Lf k) (S k) (Lf (k+1)) (by simp) (by simp[Act.eval]) (by simp[Act.eval]) hlt (by omega) (za HLK).symm (by have:=za R2;omega) (za HA').c0 (za HA').c1 cy ((za HA').f7 1) ?_
   intro w3 hP6
   simp only[qx,List.foldl_cons,List.foldl_nil,Act.put,List.setIfInBounds_toArray,List.set_cons_zero,List.set_cons_succ]
   have HB:=hide (((za HA').but hP6.mem).qhc (Lf (k+1)))
   generalize w3.setCell ⟨g7,1,none⟩ (.int .i64 (Lf (k+1)))=V3 at *
   clear HA' hP6 cy
   go_wp2
   have cx:V3.cell? ⟨gb,k,none⟩=some (.int .i64 (bs k)):=by have:=(za HB).bo.cells k hlt;rw[show BR S bs k k=bs k by simp[BR]] at this;exact this
   have cy:V3.cell? ⟨gs,k,none⟩=some (.int .i64 (S k)):=by have:=(za HB).sh.cells k hlt;rw[show SR S (k+1) k=S k by simp[SR]] at this;exact this
   refine zld 7 _ _ V3 g7 gs gb n k (bs k) (S k) (bs k+S k) (by simp) (by simp[Act.eval]) (by simp[Act.eval]) (by simp[Act.eval]) hlt (by omega) rfl (by have:=za RB;have:=za R3;have:=za R4;omega) (za HB).c0 cx cy ((za HB).bo.loose k) ?_
   intro w4 hP7
   simp only[qx,List.foldl_cons,List.foldl_nil,Act.put,List.setIfInBounds_toArray,List.set_cons_zero,List.set_cons_succ]
   have HC:=((za HB).but hP7.mem).qug k hlt (bs k+S k)
   rw[qjh] at HC
   have HC':=hide HC
   generalize w4.setCell ⟨gb,k,none⟩ (.int .i64 (bs k+S k))=V4 at *
   clear HC hP7 cx cy HB
   go_wp2
   exact⟨⟨k+1,by omega,by go_num,za HC'⟩,by simp[intOf];omega⟩
  ·obtain rfl:k=n:=by omega
   have c0:=(za HI).c0
   have c1:=(za HI).c1
   have d0:=(za HI).d0
   have d1:=(za HI).d1
   have f6:=(za HI).f6
   obtain⟨g6,hg6⟩:∃ g6,g6=w.heap.size+1:=⟨_,rfl⟩
   rw[← hg6] at d0 d1
   simp only[← hg6] at f6 HI ⊢
   have HG6:=hide hg6
   clear hg6
   go_wp2
   have hb:=zy wr g6 [.slice (some ⟨gs,0,none⟩) k k,.int .i64 (Lf k)] 0
   have hg:=za HI
   have hF:But [gb] w (wr.setCells g6 0 [.slice (some ⟨gs,0,none⟩) k k,.int .i64 (Lf k)]):=hg.fr.trans hb (fun x hx=>by simp at hx;subst hx;exact .inr hg.o6)
   refine bodyPost_ret (v:=.agg #[.slice (some ⟨gs,0,none⟩) k k,.int .i64 (Lf k)]) (by simp[results,results29,go_sem,d0,d1]) rfl ⟨gs,rfl,⟨(hg.sh.but hb (by simpa using hg.n6s.symm)).congr (fun i hi=>by simp[SR,hi]),hg.os,(hg.bo.but hb (by simpa using hg.n6b.symm)).congr (fun i hi=>by simp[BR,hi])⟩,hF⟩
end Go.Proofs.YtcgecpoedojhjaaGreatDoor
