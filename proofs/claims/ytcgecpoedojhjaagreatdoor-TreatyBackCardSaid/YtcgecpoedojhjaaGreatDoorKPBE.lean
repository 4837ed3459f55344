/- A line's text. (mkBE.py)  -/
import Derived.Test.YtcgecpoedojhjaaGreatDoorKPAU
import Derived.Test.YtcgecpoedojhjaaGreatDoorKPAZe
namespace Go.Proofs.YtcgecpoedojhjaaGreatDoor
open Go.Proofs.Tryz
open Go.RowKit Go.Shelf
set_option maxHeartbeats 32000000
set_option maxRecDepth 100000
set_option linter.unusedVariables false
def ut (kd ti:Int):Nat:=if kd=1 then 0 else if kd=2 then 1 else if kd=3 then (if ti=0 then 2 else 3) else 4
theorem zxr (kd ti:Int) (h1:1≤kd) (h4:kd≤4):ut kd ti<5∧zdu kd ti (ut kd ti)∧∀ j,j<ut kd ti→¬ zdu kd ti j:=by
 have:kd=1∨kd=2∨kd=3∨kd=4:=by omega
 rcases this with rfl|rfl|rfl|rfl
 ·exact⟨by simp[ut],by simp[ut,zdu,fmK,fmB],fun j hj=>by simp[ut] at hj⟩
 ·refine⟨by simp[ut],by simp[ut,zdu,fmK,fmB],fun j hj=>?_⟩
  have:j=0:=by simp[ut] at hj;omega
  subst this
  simp[zdu,fmK]
 ·by_cases ht:ti=0
  ·subst ht
   refine⟨by simp[ut],by simp[ut,zdu,fmK,fmB],fun j hj=>?_⟩
   have:j=0∨j=1:=by simp[ut] at hj;omega
   rcases this with rfl|rfl <;> simp[zdu,fmK]
  ·refine⟨by simp[ut,ht],by simp[ut,zdu,fmK,fmB,ht],fun j hj=>?_⟩
   have:j=0∨j=1∨j=2:=by simp[ut,ht] at hj;omega
   rcases this with rfl|rfl|rfl <;> simp[zdu,fmK,fmB,ht]
 ·refine⟨by simp[ut],by simp[ut,zdu,fmK,fmB],fun j hj=>?_⟩
  have:j=0∨j=1∨j=2∨j=3:=by simp[ut] at hj;omega
  rcases this with rfl|rfl|rfl|rfl <;> simp[zdu,fmK]
theorem uw.quj {w:World} {base:Nat} {v:Value} {ws:List (List UInt8)} (h:uw w base v ws) (hn:0<ws.length):∃ g cap,v=.slice (some ⟨g,0,none⟩) ws.length cap∧ws.length≤cap∧jy base w g (ws.map yg):=by
 have ho:=h
 rcases h.2 with ⟨rfl,h0⟩|⟨g,cap,cur,rfl,h1,h2,h3,-⟩
 ·omega
 ·refine⟨g,cap,rfl,h3,⟨fun k u hu=>?_,fun j=>by simp[World.frozen?,h2],h1,(Array.getElem?_eq_some_iff.1 h2).1⟩⟩
  have hk:=(List.getElem?_eq_some_iff.1 hu).1
  rw[List.length_map] at hk
  rw[World.ownsRow.cellAt ho k (by omega)]
  exact hu
def zgx (ws us:List (List UInt8)) (k:Nat):List Value:=(us.take k++ws.drop k).map yg
theorem qin (ws us:List (List UInt8)) (k:Nat) (hl:us.length=ws.length) (hk:k<ws.length):(zgx ws us k)[k]? = some (yg (ws[k]?.getD [])):=by
 unfold zgx
 rw[List.getElem?_map,List.getElem?_append_right (by rw[List.length_take];omega),List.length_take,List.getElem?_drop,show k+(k-min k us.length)=k by omega,List.getElem?_eq_getElem hk]
 rfl
theorem qfb (ws us:List (List UInt8)) (k:Nat) (hl:us.length=ws.length) (hk:k<ws.length):(zgx ws us k).take k++[yg (us[k]?.getD [])]++(zgx ws us k).drop (k+1)=zgx ws us (k+1):=by
 unfold zgx
 have e1:(us.take k).length=k:=by rw[List.length_take];omega
 rw[← List.map_take,← List.map_drop,List.take_append_of_le_length (by omega),List.take_take,Nat.min_self,List.drop_append,List.drop_eq_nil_of_le (by omega),List.nil_append,e1,List.drop_drop,show k+(k+1-k)=k+1 by omega]
 rw[show us.take (k+1)=us.take k++[us[k]?.getD []] by rw[List.take_add_one,List.getElem?_eq_getElem (by omega)];rfl]
 simp
theorem qfc (ws us:List (List UInt8)) (k:Nat) (hl:us.length=ws.length) (hk:k≤ws.length):(zgx ws us k).length=ws.length:=by
 unfold zgx
 simp
 omega
theorem zqo (kd:Int) (f:Rat) (s:Bool) (x y:Int) (p:Option Addr) (fr li ti pr:Int) (nm:ByteArray) (t:List UInt8) (fi:Nat) (hfi:fi<5) (h1:zdu kd ti fi) (h2:∀ j,j<fi→¬ zdu kd ti j) (r:af fr li ti pr) (us:List (List UInt8)) (hus:us=wsF ⟨kd,f,fr,li,ti,pr,nm⟩ t fi) (hlen:(jn 32 us).length≤1000000) (mx:Int) (w:World) (htab:Lib.TabIs prog w "internal/strconv.uint64pow10" .u64 Lib.pow10Tab)
  (TX:∀ W,But [] w W→Calls prog 21 #[.agg #[.bool s,.int .u64 x,.int .u64 y,.pointer p]] W fun e w'=>e=.returned (.string ⟨t.toArray⟩)∧But [] W w') (hF:xw w) (hm:w.cell? ⟨2,0,none⟩=some (.int .i64 mx)) :
  Calls prog 12 #[zq kd s x y p fr li ti pr nm] w fun e w'=>e=.returned (yg (jn 32 us))∧But [] w w':=by
 obtain⟨ws,hws⟩:∃ ws,ws=fmW fi:=⟨_,rfl⟩
 have hl:us.length=ws.length:=by rw[hus,hws];exact qgw _ _ _ hfi
 obtain⟨m1,m2,m3,m4,m5⟩:=zfk fi hfi
 rw[← hws] at m1 m2 m3 m4 m5
 have FM:Hid (∀ W,But [] w W→Calls prog 25 #[.agg #[.int .i64 kd,.bool s,.int .u64 x,.int .u64 y,.pointer p,.int .i64 fr,.int .i64 li,.int .i64 ti,.int .i64 pr,.string nm]] W fun e w'=>e=.returned (.string (fmT fi))∧But [] W w'):=fun W hW=>zqp kd s x y p fr li ti pr nm fi hfi h1 h2 W (hF.but hW)
 have CT:Hid (∀ W,But [] w W→Calls prog 17 #[.string (fmT fi)] W fun e w'=>∃ g cap,e=.returned (.slice (some ⟨g,0,none⟩) ws.length cap)∧ws.length≤cap∧jy W.heap.size w' g (ws.map yg)∧But [] W w'):=fun W hW=>by
  refine (zbl ws m1 (by omega) (by omega) (fmT fi) m2 mx W (hW.zb hm (by simp))).mono ?_
  rintro e w' ⟨v,rfl,ho,hb⟩
  obtain⟨g,cap,rfl,hc,hN⟩:=ho.quj m4
  exact⟨g,cap,rfl,hc,hN,hb⟩
 have SD:Hid (∀ k,k<ws.length→∀ W,But [] w W→Calls prog 26 #[.agg #[.int .i64 kd,.bool s,.int .u64 x,.int .u64 y,.pointer p,.int .i64 fr,.int .i64 li,.int .i64 ti,.int .i64 pr,.string nm],yg (ws[k]?.getD [])] W fun e w'=>e=.returned (yg (us[k]?.getD []))∧But [] W w'):=fun k hk W hW=>by
  have:=qtn ⟨kd,f,fr,li,ti,pr,nm⟩ s x y p t r fi k hfi (by rw[← hws];exact hk) W (TabIs.but htab hW) (fun W' hW'=>TX W' (hW.trans' hW'))
  rw[← hus,← hws] at this
  exact this
 have JO:=hide (fun g cap W (hw:lv W (.slice (some ⟨g,0,none⟩) us.length cap) us) hc hg=>zrx g 0 cap us W hw (by omega) hc hg hlen)
 obtain⟨tf,htf⟩:∃ tf,tf=fmT fi:=⟨_,rfl⟩
 rw[← htf] at FM CT
 obtain⟨n,hn⟩:∃ n,n=ws.length:=⟨_,rfl⟩
 rw[← hn] at CT SD m4 m5 hl
 rw[hl] at JO
 have HN:=hide hn
 have HL:=hide hl
 have bA:=hide ((But.refl [] w).alloc (.cells #[.int .i64 kd,.bool s,.int .u64 x,.int .u64 y,.pointer p,.int .i64 fr,.int .i64 li,.int .i64 ti,.int .i64 pr,.string nm] 37))
 have D1:=hide (bf.new w kd s x y p fr li ti pr nm)
 have hg1w:=hide (Nat.le_refl w.heap.size)
 obtain⟨g1,hg1⟩:∃ g1,g1=w.heap.size:=⟨_,rfl⟩
 have HG1:=hide hg1
 rw[← hg1] at D1
 clear h1 h2 r hus hlen htab TX hF hm hws m1 m2 m3 htf hn hl hfi
 unfold zq
 go_enter func12,ntmps12
 go_wp2_with fail
 refine (za FM _ (za bA)).mono ?_
 rintro e w1 ⟨rfl,hb1⟩
 rw[← hg1]
 have B1:=hide ((za bA).trans' hb1)
 have D2:=hide ((za D1).but hb1 (by simp))
 have h1s:=hide (show g1<w1.heap.size from Nat.lt_of_lt_of_le (by rw[hg1];simp) hb1.size)
 clear hb1 bA D1 FM hg1
 go_wp2_with fail
 refine (za CT _ (za B1)).mono ?_
 rintro e w2 ⟨g,cap,rfl,hcap,hN,hb2⟩
 have hgg:g1<g:=Nat.lt_of_lt_of_le (za h1s) hN.new
 have hwg:w.heap.size≤g:=by have:=za HG1;omega
 have NM:Hid (jy 0 w2 g (zgx ws us 0)):=by
  show jy _ _ _ _
  unfold zgx
  rw[List.take_zero,List.nil_append,List.drop_zero]
  exact⟨hN.cells,hN.loose,Nat.zero_le _,hN.lt⟩
 have B2:=hide ((za B1).trans' hb2)
 have D3:=hide ((za D2).but hb2 (by simp))
 clear hN hb2 B1 D2 CT h1s
 go_wp2
 go_loopw [11] (fun i wr=>∃ k:Nat,k≤n∧i=.int .i64 (k:Int)∧Hid (But [] w wr)∧Hid (bf wr g1 kd s x y p fr li ti pr nm)∧Hid (jy 0 wr g (zgx ws us k))) (fun i _=>n-(intOf i).toNat)
 case atStart=>exact⟨0,Nat.zero_le _,rfl,za B2,za D3,za NM⟩
 case round =>
  obtain⟨k,hk,rfl,IB,ID,IN⟩:=hrel
  rename World=>wr
  clear B2 D3 NM
  by_cases hkn:k<n
  ·have hkc:((k:Nat):Int)<(n:Int):=by omega
   obtain⟨wk,hwk⟩:∃ wk:ByteArray,wk=⟨(ws[k]?.getD []).toArray⟩:=⟨_,rfl⟩
   obtain⟨uk,huk⟩:∃ uk:ByteArray,uk=⟨(us[k]?.getD []).toArray⟩:=⟨_,rfl⟩
   have hkw:k<ws.length:=by have:=za HN;omega
   have hul:us.length=ws.length:=by have:=za HN;have:=za HL;omega
   have ck:wr.cell? ⟨g,k,none⟩=some (.string wk):=by rw[hwk];exact (za IN).cells k _ (qin ws us k hul hkw)
   have SK:=za SD k hkn wr (za IB)
   unfold yg at SK
   rw[← hwk,← huk] at SK
   have HSK:=hide SK
   have HUK:=hide huk
   have HKW:=hide hkw
   have HUL:=hide hul
   clear SK hwk huk hkw hul
   have d0:wr.cell? ⟨g1,0,none⟩=some (.int .i64 kd):=(za ID).cells 0 _ rfl
   have d1:wr.cell? ⟨g1,1,none⟩=some (.bool s):=(za ID).cells 1 _ rfl
   have d2:wr.cell? ⟨g1,2,none⟩=some (.int .u64 x):=(za ID).cells 2 _ rfl
   have d3:wr.cell? ⟨g1,3,none⟩=some (.int .u64 y):=(za ID).cells 3 _ rfl
   have d4:wr.cell? ⟨g1,4,none⟩=some (.pointer p):=(za ID).cells 4 _ rfl
   have d5:wr.cell? ⟨g1,5,none⟩=some (.int .i64 fr):=(za ID).cells 5 _ rfl
   have d6:wr.cell? ⟨g1,6,none⟩=some (.int .i64 li):=(za ID).cells 6 _ rfl
   have d7:wr.cell? ⟨g1,7,none⟩=some (.int .i64 ti):=(za ID).cells 7 _ rfl
   have d8:wr.cell? ⟨g1,8,none⟩=some (.int .i64 pr):=(za ID).cells 8 _ rfl
   have d9:wr.cell? ⟨g1,9,none⟩=some (.string nm):=(za ID).cells 9 _ rfl
   go_wp2_with fail
   refine (za HSK).mono ?_
   rintro e wn ⟨rfl,hb⟩
   have N2:=(za IN).but hb
   have ck2:=hb.zb ck (by simp)
   have fz:=N2.loose
   have hput:=N2.putAt k [.string uk] (by rw[qfc ws us k (za HUL) (by have:=za HKW;omega)];exact za HKW)
   have hS:=zy wn g [.string uk] k
   have JN:Hid (jy 0 (wn.setCell ⟨g,k,none⟩ (.string uk)) g (zgx ws us (k+1))):=by
    have e:=qfb ws us k (za HUL) (za HKW)
    unfold yg at e
    rw[← za HUK] at e
    rw[← e]
    exact hput
   have JB:Hid (But [] w (wn.setCell ⟨g,k,none⟩ (.string uk))):=((za IB).trans' hb).trans hS (fun x hx=>by simp at hx;subst hx;exact .inr hwg)
   have JD:Hid (bf (wn.setCell ⟨g,k,none⟩ (.string uk)) g1 kd s x y p fr li ti pr nm):=((za ID).but hb (by simp)).but hS (by simp;omega)
   clear hb hput hS N2 HSK IB ID IN ck d0 d1 d2 d3 d4 d5 d6 d7 d8 d9
   go_wp2
   exact⟨⟨k+1,by omega,by go_num,za JB,za JD,za JN⟩,by simp[intOf];omega⟩
  ·obtain rfl:k=n:=by omega
   have hul:us.length=ws.length:=by have:=za HN;have:=za HL;omega
   have WA:lv wr (.slice (some ⟨g,0,none⟩) k cap) us:=by
    refine⟨some ⟨g,0,none⟩,cap,by rw[za HL],fun i z hz=>⟨g,0,rfl,?_⟩⟩
    rw[Nat.zero_add]
    refine (za IN).cells i _ ?_
    unfold zgx
    rw[List.take_of_length_le (by have:=za HL;omega),List.drop_eq_nil_of_le (by have:=za HN;omega),List.append_nil,List.getElem?_map,hz]
    rfl
   have HJ:=hide (za JO g cap wr WA hcap (za IN).lt)
   have IB2:=hide (za IB)
   obtain⟨T,hT⟩:∃ T,T=yg (jn 32 us):=⟨_,rfl⟩
   rw[← hT] at HJ
   have HT:=hide hT
   clear hT
   clear WA ID IN IB JO SD hul
   go_wp2_with fail
   refine (za HJ).mono ?_
   rintro e wn ⟨rfl,hb⟩
   have B5:=hide ((za IB2).trans' hb)
   clear hb HJ IB2
   go_wp2
   exact bodyPost_ret (v:=T) (by simp[results,results12,go_sem]) rfl ⟨by rw[za HT],za B5⟩
def zcy (f:Rat):List UInt8:=(ru (decide (f.num<0)) f.num.natAbs f.den).data.toList
def txW (l:Ln):List (List UInt8):=wsF l (zcy l.f) (ut l.kd l.ti)
def tx (l:Ln):List UInt8:=jn 32 (txW l)
def txL (ls:List Ln) (i:Nat):List UInt8:=(ls.take i).flatMap fun l=>tx l++[10]
theorem zrv (ls:List Ln) (i:Nat) (l:Ln) (h:ls[i]? = some l):txL ls (i+1)=txL ls i++tx l++[10]:=by
 unfold txL
 rw[List.take_add_one,h]
 simp
theorem zpt (ls:List Ln) (hT:∀ l ∈ ls,(tx l).length≤1000):∀ i,(txL ls i).length≤1001*i
 | 0=>by simp[txL]
 | i+1=>by
  have ih:=zpt ls hT i
  cases h:ls[i]? with
  | none =>
   have:txL ls (i+1)=txL ls i:=by unfold txL;rw[List.take_add_one,h];simp
   rw[this];omega
  | some l =>
   rw[zrv ls i l h]
   have:=hT l (List.mem_of_getElem? h)
   simp only[List.length_append,List.length_cons,List.length_nil]
   omega
def zuh (l:Ln):Prop:=¬ (l.ti=0∧l.pr≠0)
def zwv (ls:List Ln) (n:Nat):Prop:=(n≤40∧zfo ls n)∧∀ l ∈ ls,zuh l
def qgs (ls:List Ln) (n:Nat) (w:World) (e:Ending) (w':World):Prop:=But [] w w' ∧
 ((zwv ls n∧e=.returned (.tuple #[.string ⟨(txL ls n).toArray⟩,.nilIface]))∨(¬ zwv ls n∧∃ c,e=.returned (.tuple #[.string ⟨#[]⟩,.iface 50 (.int .i64 c)])))
theorem zkf (q:Option Addr) (n c:Nat) (ls:List Ln) (mx:Int) (w:World) (hv:bn w (.slice q n c) ls) (lf:∀ l ∈ ls,Len l.f 1) (hbig:∀ l ∈ ls,l.to.size<9223372036854775808) (hT:(n≤40∧zfo ls n)→∀ l ∈ ls,(tx l).length≤1000) (htab:Lib.TabIs prog w "internal/strconv.uint64pow10" .u64 Lib.pow10Tab) (hF:xw w) (hm:w.cell? ⟨2,0,none⟩=some (.int .i64 mx)) :
  Calls prog 5 #[.slice q n c] w fun e w'=>qgs ls n w e w':=by
 have hnl:n=ls.length:=by
  obtain⟨a,cap,e,-⟩:=hv
  simp only[Value.slice.injEq] at e
  exact e.2.1
 have CH:=hide (zct q n c ls w hv lf hbig)
 have HV:=hide hv
 have HNL:=hide hnl
 have HT:=hide hT
 have LT:Hid (∀ l ∈ ls,di l→∀ s x y p W0,But [] w W0→zi W0 (.agg #[.bool s,.int .u64 x,.int .u64 y,.pointer p]) l.f→(tx l).length≤1000→Calls prog 12 #[zq l.kd s x y p l.fr l.li l.ti l.pr l.to] W0 fun e w'=>e=.returned (yg (tx l))∧But [] W0 w'):=fun l hl hok s x y p W0 hW hf hlen=>by
  obtain⟨f1,f2,f3⟩:=zxr l.kd l.ti hok.1.1 hok.1.2
  refine zqo l.kd l.f s x y p l.fr l.li l.ti l.pr l.to (zcy l.f) (ut l.kd l.ti) f1 f2 f3 hok.2.2.1 (txW l) rfl (by have:=hlen;unfold tx at this;omega) mx W0 (TabIs.but htab hW) (fun W hW2=>?_) (hF.but hW) (hW.zb hm (by simp))
  have h:=zck (.agg #[.bool s,.int .u64 x,.int .u64 y,.pointer p]) l.f W (hf.but hW2) ((lf l hl).mono (by omega)) (TabIs.but htab (hW.trans' hW2)) (ru (decide (l.f.num<0)) l.f.num.natAbs l.f.den) (hide rfl)
  have e:(⟨(zcy l.f).toArray⟩:ByteArray)=ru (decide (l.f.num<0)) l.f.num.natAbs l.f.den:=by unfold zcy;simp
  rw[e]
  exact h
 clear hv hbig hT htab hF hm lf hnl
 go_enter func5,ntmps5
 go_wp2_with fail
 refine (za CH).mono ?_
 rintro e w1 ⟨r,rfl,hy,hno,hb1⟩
 by_cases hok:n≤40∧zfo ls n
 ·obtain rfl:=hy hok
  have n40:n≤40:=hok.1
  have HOK:=hide hok
  have HB1:=hide hb1
  have TL:=hide (za HT hok)
  obtain⟨U,hU⟩:∃ U,U=w1.alloc (.cells #[.pointer none,.slice none 0 0] 49):=⟨_,rfl⟩
  have bU:But [] w1 U:=by rw[hU];exact (But.refl _ _).alloc _
  have lU:w1.heap.size<U.heap.size:=by rw[hU];simp
  have dU:oq U w1.heap.size []:=by rw[hU];exact oq.new w1
  obtain⟨b,hb⟩:∃ b,b=w1.heap.size:=⟨_,rfl⟩
  rw[← hb] at dU lU
  have I0:Hid (oq U b (txL ls 0)∧But [] w1 U∧b<U.heap.size):=⟨dU,bU,lU⟩
  have BB:Hid (∀ X Y,But [] w1 X→Below b X Y→But [] w1 Y):=fun X Y h1 h2=>qba h1 (by rw[← hb];exact h2)
  clear hok hb1 CH dU bU lU hy hno HT
  dsimp only
  go_wp2
  rw[← hU,← hb]
  clear hU hb
  go_loopw [15] (fun iv wr=>∃ i:Nat,i≤n∧iv=.int .i64 (i:Int)∧Hid (oq wr b (txL ls i)∧But [] w1 wr∧b<wr.heap.size)∧Hid (∀ j l,j<i→ls[j]? = some l→zuh l)) (fun iv _=>n-(intOf iv).toNat)
  case atStart=>exact⟨0,Nat.zero_le _,rfl,za I0,fun j l hj=>absurd hj (by omega)⟩
  case round =>
   obtain⟨i,hi,rfl,HI,HP⟩:=hrel
   rename World=>wr
   clear I0
   by_cases hlt:i<n
   ·have hltc:((i:Nat):Int)<(n:Int):=by omega
    have hil:i<ls.length:=by have:=za HNL;omega
    obtain⟨l,hge⟩:∃ l,ls[i]? = some l:=⟨_,List.getElem?_eq_getElem hil⟩
    have BWR:Hid (But [] w wr):=(za HB1).trans' (za HI).2.1
    have HMEM:=hide (List.mem_of_getElem? hge)
    have hlo:=(za HOK).2 i l hlt hge
    have HLO:=hide hlo.1
    have HGE:=hide hge
    have hlen:=za TL l (za HMEM)
    have hlen2:=zpt ls (za TL) i
    have NXT:=hide (zrv ls i l hge)
    obtain⟨a,cap,ea,hca,hla⟩:=(za HV).but (za BWR)
    simp only[Value.slice.injEq] at ea
    obtain⟨rb,ro,e1,s,x,y,p,⟨d0,d1,d2,d3,d4,d5,d6,d7,d8,d9⟩,hf⟩:=hla i l hge
    obtain rfl:q=some ⟨rb,ro,none⟩:=ea.1.trans e1
    have hcn:n≤c:=by rw[ea.2.2];have:=za HNL;omega
    clear ea e1 hca hla hlo hge
    obtain⟨T,hTx⟩:∃ T,T=tx l:=⟨_,rfl⟩
    obtain⟨L,hL⟩:∃ L,L=txL ls i:=⟨_,rfl⟩
    have TXC:=za LT l (za HMEM) (za HLO) s x y p
    rw[← hTx] at TXC hlen NXT
    rw[← hL] at hlen2 NXT
    have HI0:Hid (oq wr b L):=by show oq _ _ _;rw[hL];exact (za HI).1
    have HFR:=hide hf
    have HLP:Hid (∀ j m,j<i+1→ls[j]? = some m→zuh l→zuh m):=fun j m hj hm hp=>by
     rcases Nat.lt_or_ge j i with h | h
     ·exact za HP j m h hm
     ·obtain rfl:j=i:=by omega
      obtain rfl:=Option.some.inj ((za HGE).symm.trans hm)
      exact hp
    have HNP:Hid (¬ zuh l→¬ zwv ls n):=fun h1 h2=>h1 (h2.2 l (za HMEM))
    obtain⟨kd,f,fr,li,ti,pr,nm⟩:=l
    simp only at d0 d1 d2 d3 d4 d5 d6 d7 d8 d9
    unfold zq at TXC
    simp only at TXC
    have bA:But [] wr (wr.alloc (.cells #[.int .i64 kd,.bool s,.int .u64 x,.int .u64 y,.pointer p,.int .i64 fr,.int .i64 li,.int .i64 ti,.int .i64 pr,.string nm] 37)):=(But.refl [] wr).alloc _
    have TXC2:=hide (TXC (wr.alloc (.cells #[.int .i64 kd,.bool s,.int .u64 x,.int .u64 y,.pointer p,.int .i64 fr,.int .i64 li,.int .i64 ti,.int .i64 pr,.string nm] 37)) ((za BWR).trans' bA) ((za HFR).but bA) hlen)
    have HB2:=hide ((za HI).2.1.trans' bA)
    have HI2:=hide ((za HI0).but bA)
    have hbl:b<(wr.alloc (.cells #[.int .i64 kd,.bool s,.int .u64 x,.int .u64 y,.pointer p,.int .i64 fr,.int .i64 li,.int .i64 ti,.int .i64 pr,.string nm] 37)).heap.size:=Nat.lt_of_lt_of_le (za HI).2.2 bA.size
    have HBL:=hide hbl
    clear TXC hTx hL hf bA HFR HI0 HI hil BWR hbl
    by_cases ht:ti=0
    ·have ht2:(ti==0)=true:=by simpa using ht
     by_cases hp:pr=0
     ·have hp2:(pr != 0)=false:=by simpa using hp
      have POK:Hid (zuh ⟨kd,f,fr,li,ti,pr,nm⟩):=fun h=>h.2 hp
      clear ht hp HNP
      go_wp2_with fail
      refine (za TXC2).mono ?_
      rintro e w2 ⟨rfl,hb2⟩
      have WS:=hide (zcq b L ⟨T.toArray⟩ w2 ((za HI2).but hb2) (by omega) (by show T.toArray.size<_;simp;omega) (Nat.lt_of_lt_of_le (za HBL) hb2.size))
      have HB3:=hide ((za HB2).trans' hb2)
      have hl2:=hide (Nat.lt_of_lt_of_le (za HBL) hb2.size)
      unfold yg
      clear hb2 TXC2 HB2 HI2
      dsimp only
      go_wp2_with fail
      refine (za WS).mono ?_
      rintro e w3 ⟨rfl,h3,hb3⟩
      have WB:=zem b (L++(⟨T.toArray⟩:ByteArray).data.toList) 10 w3 h3 (by simp;omega) (Nat.lt_of_lt_of_le (za hl2) hb3.size)
      rw[show ((10:UInt8).toNat:Int)=10 from rfl] at WB
      have HWB:=hide WB
      have HB4:=hide (za BB _ _ (za HB3) hb3)
      have hl3:=hide (Nat.lt_of_lt_of_le (za hl2) hb3.size)
      clear h3 hb3 WS WB HB3
      dsimp only
      go_wp2_with fail
      refine (za HWB).mono ?_
      rintro e w4 ⟨rfl,h4,hb4⟩
      have NX:Hid (oq w4 b (txL ls (i+1))∧But [] w1 w4∧b<w4.heap.size):=by
       refine⟨?_,za BB _ _ (za HB4) hb4,Nat.lt_of_lt_of_le (za hl3) hb4.size⟩
       rw[za NXT]
       exact h4
      clear h4 hb4 HWB HB4
      dsimp only
      go_wp2
      exact⟨⟨i+1,by omega,by go_num,za NX,fun j m hj hm=>za HLP j m hj hm (za POK)⟩,by simp[intOf];omega⟩
     ·have hp2:(pr != 0)=true:=by simpa using hp
      have NOK:=hide (za HNP (fun h=>h ⟨ht,hp⟩))
      have BF:=hide ((za HB1).trans' (za HB2))
      clear ht hp HNP TXC2 HB2 HI2 HB1
      go_wp2
      exact bodyPost_ret (v:=.tuple #[.string ⟨#[]⟩,.iface 50 (.int .i64 1)]) (by simp[results,results5,go_sem]) rfl ⟨za BF,.inr ⟨za NOK,1,rfl⟩⟩
    ·have ht2:(ti==0)=false:=by simpa using ht
     have POK:Hid (zuh ⟨kd,f,fr,li,ti,pr,nm⟩):=fun h=>ht h.1
     clear HNP
     go_wp2_with fail
     refine (za TXC2).mono ?_
     rintro e w2 ⟨rfl,hb2⟩
     have WS:=hide (zcq b L ⟨T.toArray⟩ w2 ((za HI2).but hb2) (by omega) (by show T.toArray.size<_;simp;omega) (Nat.lt_of_lt_of_le (za HBL) hb2.size))
     have HB3:=hide ((za HB2).trans' hb2)
     have hl2:=hide (Nat.lt_of_lt_of_le (za HBL) hb2.size)
     unfold yg
     clear hb2 TXC2 HB2 HI2
     dsimp only
     go_wp2_with fail
     refine (za WS).mono ?_
     rintro e w3 ⟨rfl,h3,hb3⟩
     have WB:=zem b (L++(⟨T.toArray⟩:ByteArray).data.toList) 10 w3 h3 (by simp;omega) (Nat.lt_of_lt_of_le (za hl2) hb3.size)
     rw[show ((10:UInt8).toNat:Int)=10 from rfl] at WB
     have HWB:=hide WB
     have HB4:=hide (za BB _ _ (za HB3) hb3)
     have hl3:=hide (Nat.lt_of_lt_of_le (za hl2) hb3.size)
     clear h3 hb3 WS WB HB3
     dsimp only
     go_wp2_with fail
     refine (za HWB).mono ?_
     rintro e w4 ⟨rfl,h4,hb4⟩
     have NX:Hid (oq w4 b (txL ls (i+1))∧But [] w1 w4∧b<w4.heap.size):=by
      refine⟨?_,za BB _ _ (za HB4) hb4,Nat.lt_of_lt_of_le (za hl3) hb4.size⟩
      rw[za NXT]
      exact h4
     clear h4 hb4 HWB HB4
     dsimp only
     go_wp2
     exact⟨⟨i+1,by omega,by go_num,za NX,fun j m hj hm=>za HLP j m hj hm (za POK)⟩,by simp[intOf];omega⟩
   ·obtain rfl:i=n:=by omega
    have ST:=hide (zgm b (txL ls i) wr (za HI).1 (za HI).2.2)
    have TOK:Hid (zwv ls i):=⟨za HOK,fun l hl=>by
     obtain⟨j,hj,rfl⟩:=List.getElem_of_mem hl
     exact za HP j _ (by have:=za HNL;omega) (List.getElem?_eq_getElem hj)⟩
    have HI2:=hide (za HI).2.1
    obtain⟨T,hTx⟩:∃ T:ByteArray,T=⟨(txL ls i).toArray⟩:=⟨_,rfl⟩
    rw[← hTx] at ST
    have HTX:=hide hTx
    clear hTx HI HP
    go_wp2_with fail
    refine (za ST).mono ?_
    rintro e wn ⟨rfl,hbn⟩
    have BF:=hide ((za HB1).trans' (za BB _ _ (za HI2) hbn))
    clear hbn ST HI2
    go_wp2
    exact bodyPost_ret (v:=.tuple #[.string T,.nilIface]) (by simp[results,results5,go_sem]) rfl ⟨za BF,.inl ⟨za TOK,by rw[za HTX]⟩⟩
 ·obtain⟨z,rfl⟩:=hno hok
  have NOK:Hid (¬ zwv ls n):=fun h=>hok h.1
  have BF:=hide hb1
  clear hy hno hok hb1 CH HT LT
  go_wp2
  exact bodyPost_ret (v:=.tuple #[.string ⟨#[]⟩,.iface 50 (.int .i64 z)]) (by simp[results,results5,go_sem]) rfl ⟨za BF,.inr ⟨za NOK,z,rfl⟩⟩
end Go.Proofs.YtcgecpoedojhjaaGreatDoor
