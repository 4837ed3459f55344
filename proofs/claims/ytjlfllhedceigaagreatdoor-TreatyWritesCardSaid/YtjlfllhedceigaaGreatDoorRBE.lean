/- A line's text. (mkBE.py)  -/
import Derived.Test.YtjlfllhedceigaaGreatDoorProg
import Derived.Laws.MakeOwn
import Derived.Deep.DeepCutAuto
import Derived.Test.YtjlfllhedceigaaGreatDoorRBC
import Derived.Test.YtjlfllhedceigaaGreatDoorRTWj
namespace Go.Proofs.YtjlfllhedceigaaGreatDoor
open Go.Proofs.Tryz
open Go.RowKit Go.Shelf
set_option maxHeartbeats 32000000
set_option maxRecDepth 100000
set_option linter.unusedVariables false
def zaq (kd ti:Int):Nat:=if kd=1 then 0 else if kd=2 then 1 else if kd=3 then (if ti=0 then 2 else 3) else 4
theorem zva (kd ti:Int) (h1:1≤kd) (h4:kd≤4):zaq kd ti<5∧zcw kd ti (zaq kd ti)∧∀ j,j<zaq kd ti→¬ zcw kd ti j:=by(
 have:kd=1∨kd=2∨kd=3∨kd=4:=by omega
 rcases this with rfl|rfl|rfl|rfl
 ·exact⟨by simp[zaq],by simp[zaq,zcw,fmK,fmB],fun j hj=>by simp[zaq] at hj⟩
 ·refine⟨by simp[zaq],by simp[zaq,zcw,fmK,fmB],fun j hj=>?_⟩
  have:j=0:=by simp[zaq] at hj;omega
  subst this
  simp[zcw,fmK]
 ·(
 by_cases ht:ti=0
 ·subst ht
  refine⟨by simp[zaq],by simp[zaq,zcw,fmK,fmB],fun j hj=>?_⟩
  have:j=0∨j=1:=by simp[zaq] at hj;omega
  rcases this with rfl|rfl <;> simp[zcw,fmK]
 ·refine⟨by simp[zaq,ht],by simp[zaq,zcw,fmK,fmB,ht],fun j hj=>?_⟩
  have:j=0∨j=1∨j=2:=by simp[zaq,ht] at hj;omega
  rcases this with rfl|rfl|rfl <;> simp[zcw,fmK,fmB,ht])
 ·refine⟨by simp[zaq],by simp[zaq,zcw,fmK,fmB],fun j hj=>?_⟩
  have:j=0∨j=1∨j=2∨j=3:=by simp[zaq] at hj;omega
  rcases this with rfl|rfl|rfl|rfl <;> simp[zcw,fmK])
theorem zan.qkv {w:World} {base:Nat} {v:Value} {ws:List (List UInt8)} (h:zan w base v ws) (hn:0<ws.length):∃ g cap,v=.slice (some ⟨g,0,none⟩) ws.length cap∧ws.length≤cap∧p9 base w g (ws.map dm):=by(
 have ho:=h
 rcases h.2 with ⟨rfl,h0⟩|⟨g,cap,cur,rfl,h1,h2,h3,-⟩
 ·omega
 ·(
 refine⟨g,cap,rfl,h3,⟨fun k u hu=>?_,fun j=>by simp[World.frozen?,h2],h1,(Array.getElem?_eq_some_iff.1 h2).1⟩⟩
 have hk:=(List.getElem?_eq_some_iff.1 hu).1
 rw[List.length_map] at hk
 rw[World.ownsRow.cellAt ho k (by omega)]
 exact hu))
def zgn (ws us:List (List UInt8)) (k:Nat):List Value:=(us.take k++ws.drop k).map dm
theorem qfs (ws us:List (List UInt8)) (k:Nat) (hl:us.length=ws.length) (hk:k<ws.length):(zgn ws us k)[k]? = some (dm (ws[k]?.getD [])):=by(
 unfold zgn
 rw[List.getElem?_map,List.getElem?_append_right (by rw[List.length_take];omega),List.length_take,List.getElem?_drop,show k+(k-min k us.length)=k by omega,List.getElem?_eq_getElem hk]
 rfl)
theorem qcr (ws us:List (List UInt8)) (k:Nat) (hl:us.length=ws.length) (hk:k<ws.length):(zgn ws us k).take k++[dm (us[k]?.getD [])]++(zgn ws us k).drop (k+1)=zgn ws us (k+1):=by(
 unfold zgn
 have e1:(us.take k).length=k:=by rw[List.length_take];omega
 rw[← List.map_take,← List.map_drop,List.take_append_of_le_length (by omega),List.take_take,Nat.min_self,List.drop_append,List.drop_eq_nil_of_le (by omega),List.nil_append,e1,List.drop_drop,show k+(k+1-k)=k+1 by omega]
 rw[show us.take (k+1)=us.take k++[us[k]?.getD []] by rw[List.take_add_one,List.getElem?_eq_getElem (by omega)];rfl]
 simp)
theorem qcs (ws us:List (List UInt8)) (k:Nat) (hl:us.length=ws.length) (hk:k≤ws.length):(zgn ws us k).length=ws.length:=by(
 unfold zgn
 simp
 omega)
theorem zoi (kd:Int) (f:Rat) (s:Bool) (x y:Int) (p:Option Addr) (fr li ti pr:Int) (nm:ByteArray) (t:List UInt8) (fi:Nat) (hfi:fi<5) (h1:zcw kd ti fi) (h2:∀ j,j<fi→¬ zcw kd ti j) (r:qg fr li ti pr) (us:List (List UInt8)) (hus:us=wsF ⟨kd,f,fr,li,ti,pr,nm⟩ t fi) (hlen:(jn 32 us).length≤1000000) (mx:Int) (w:World) (htab:Lib.TabIs prog w "internal/strconv.uint64pow10" .u64 Lib.pow10Tab)
   (TX:∀ W,But [] w W→Calls prog 12 #[.agg #[.bool s,.int .u64 x,.int .u64 y,.pointer p]] W fun e w'=>e=.returned (.string ⟨t.toArray⟩)∧But [] W w') (hF:uo w) (hm:w.cell? ⟨3,0,none⟩=some (.int .i64 mx)) :
   Calls prog 75 #[zh kd s x y p fr li ti pr nm] w fun e w'=>e=.returned (dm (jn 32 us))∧But [] w w':=by(
 obtain⟨ws,hws⟩:∃ ws,ws=fmW fi:=⟨_,rfl⟩
 have hl:us.length=ws.length:=by rw[hus,hws];exact qeo _ _ _ hfi
 obtain⟨m1,m2,m3,m4,m5⟩:=qjq fi hfi
 rw[← hws] at m1 m2 m3 m4 m5
 have FM:Hid (∀ W,But [] w W→Calls prog 157 #[.agg #[.int .i64 kd,.bool s,.int .u64 x,.int .u64 y,.pointer p,.int .i64 fr,.int .i64 li,.int .i64 ti,.int .i64 pr,.string nm]] W fun e w'=>e=.returned (.string (fmT fi))∧But [] W w'):=fun W hW=>zoj kd s x y p fr li ti pr nm fi hfi h1 h2 W (hF.but hW)
 have CT:Hid (∀ W,But [] w W→Calls prog 80 #[.string (fmT fi)] W fun e w'=>∃ g cap,e=.returned (.slice (some ⟨g,0,none⟩) ws.length cap)∧ws.length≤cap∧p9 W.heap.size w' g (ws.map dm)∧But [] W w'):=fun W hW=>by
  refine (zlq ws m1 (by omega) (by omega) (fmT fi) m2 mx W (hW.ag hm (by simp))).mono ?_
  rintro e w' ⟨v,rfl,ho,hb⟩
  obtain⟨g,cap,rfl,hc,hN⟩:=ho.qkv m4
  exact⟨g,cap,rfl,hc,hN,hb⟩
 have SD:Hid (∀ k,k<ws.length→∀ W,But [] w W→Calls prog 158 #[.agg #[.int .i64 kd,.bool s,.int .u64 x,.int .u64 y,.pointer p,.int .i64 fr,.int .i64 li,.int .i64 ti,.int .i64 pr,.string nm],dm (ws[k]?.getD [])] W fun e w'=>e=.returned (dm (us[k]?.getD []))∧But [] W w'):=fun k hk W hW=>by
  have:=qkh ⟨kd,f,fr,li,ti,pr,nm⟩ s x y p t r fi k hfi (by rw[← hws];exact hk) W (TabIs.but htab hW) (fun W' hW'=>TX W' (hW.trans' hW'))
  rw[← hus,← hws] at this
  exact this
 have JO:=af (fun g cap W (hw:zpa W (.slice (some ⟨g,0,none⟩) us.length cap) us) hc hg=>zpp g 0 cap us W hw (by omega) hc hg hlen)
 obtain⟨tf,htf⟩:∃ tf,tf=fmT fi:=⟨_,rfl⟩
 rw[← htf] at FM CT
 obtain⟨n,hn⟩:∃ n,n=ws.length:=⟨_,rfl⟩
 rw[← hn] at CT SD m4 m5 hl
 rw[hl] at JO
 have HN:=af hn
 have HL:=af hl
 have bA:=af ((But.refl [] w).alloc (.cells #[.int .i64 kd,.bool s,.int .u64 x,.int .u64 y,.pointer p,.int .i64 fr,.int .i64 li,.int .i64 ti,.int .i64 pr,.string nm] 77))
 have D1:=af (rf.new w kd s x y p fr li ti pr nm)
 have hg1w:=af (Nat.le_refl w.heap.size)
 obtain⟨g1,hg1⟩:∃ g1,g1=w.heap.size:=⟨_,rfl⟩
 have HG1:=af hg1
 rw[← hg1] at D1
 clear h1 h2 r hus hlen htab TX hF hm hws m1 m2 m3 htf hn hl hfi
 unfold zh
 go_enter func75,ntmps75
 go_wp2_with fail
 refine (ae FM _ (ae bA)).mono ?_
 rintro e w1 ⟨rfl,hb1⟩
 rw[← hg1]
 have B1:=af ((ae bA).trans' hb1)
 have D2:=af ((ae D1).but hb1 (by simp))
 have h1s:=af (show g1<w1.heap.size from Nat.lt_of_lt_of_le (by rw[hg1];simp) hb1.size)
 clear hb1 bA D1 FM hg1
 go_wp2_with fail
 refine (ae CT _ (ae B1)).mono ?_
 rintro e w2 ⟨g,cap,rfl,hcap,hN,hb2⟩
 have hgg:g1<g:=Nat.lt_of_lt_of_le (ae h1s) hN.new
 have hwg:w.heap.size≤g:=by have:=ae HG1;omega
 have NM:Hid (p9 0 w2 g (zgn ws us 0)):=by
  show p9 _ _ _ _
  unfold zgn
  rw[List.take_zero,List.nil_append,List.drop_zero]
  exact⟨hN.cells,hN.loose,Nat.zero_le _,hN.lt⟩
 have B2:=af ((ae B1).trans' hb2)
 have D3:=af ((ae D2).but hb2 (by simp))
 clear hN hb2 B1 D2 CT h1s
 go_wp2
 go_loopw [11] (fun i wr=>∃ k:Nat,k≤n∧i=.int .i64 (k:Int)∧Hid (But [] w wr)∧Hid (rf wr g1 kd s x y p fr li ti pr nm)∧Hid (p9 0 wr g (zgn ws us k))) (fun i _=>n-(intOf i).toNat)
 case atStart=>exact⟨0,Nat.zero_le _,rfl,ae B2,ae D3,ae NM⟩
 case round =>(
 obtain⟨k,hk,rfl,IB,ID,IN⟩:=hrel
 rename World=>wr
 clear B2 D3 NM
 by_cases hkn:k<n
 ·(
 have hkc:((k:Nat):Int)<(n:Int):=by omega
 obtain⟨wk,hwk⟩:∃ wk:ByteArray,wk=⟨(ws[k]?.getD []).toArray⟩:=⟨_,rfl⟩
 obtain⟨uk,huk⟩:∃ uk:ByteArray,uk=⟨(us[k]?.getD []).toArray⟩:=⟨_,rfl⟩
 have hkw:k<ws.length:=by have:=ae HN;omega
 have hul:us.length=ws.length:=by have:=ae HN;have:=ae HL;omega
 have ck:wr.cell? ⟨g,k,none⟩=some (.string wk):=by rw[hwk];exact (ae IN).cells k _ (qfs ws us k hul hkw)
 have SK:=ae SD k hkn wr (ae IB)
 unfold dm at SK
 rw[← hwk,← huk] at SK
 have HSK:=af SK
 have HUK:=af huk
 have HKW:=af hkw
 have HUL:=af hul
 clear SK hwk huk hkw hul
 have d0:wr.cell? ⟨g1,0,none⟩=some (.int .i64 kd):=(ae ID).cells 0 _ rfl
 have d1:wr.cell? ⟨g1,1,none⟩=some (.bool s):=(ae ID).cells 1 _ rfl
 have d2:wr.cell? ⟨g1,2,none⟩=some (.int .u64 x):=(ae ID).cells 2 _ rfl
 have d3:wr.cell? ⟨g1,3,none⟩=some (.int .u64 y):=(ae ID).cells 3 _ rfl
 have d4:wr.cell? ⟨g1,4,none⟩=some (.pointer p):=(ae ID).cells 4 _ rfl
 have d5:wr.cell? ⟨g1,5,none⟩=some (.int .i64 fr):=(ae ID).cells 5 _ rfl
 have d6:wr.cell? ⟨g1,6,none⟩=some (.int .i64 li):=(ae ID).cells 6 _ rfl
 have d7:wr.cell? ⟨g1,7,none⟩=some (.int .i64 ti):=(ae ID).cells 7 _ rfl
 have d8:wr.cell? ⟨g1,8,none⟩=some (.int .i64 pr):=(ae ID).cells 8 _ rfl
 have d9:wr.cell? ⟨g1,9,none⟩=some (.string nm):=(ae ID).cells 9 _ rfl
 go_wp2_with fail
 refine (ae HSK).mono ?_
 rintro e wn ⟨rfl,hb⟩
 have N2:=(ae IN).but hb
 have ck2:=hb.ag ck (by simp)
 have fz:=N2.loose
 have hput:=N2.putAt k [.string uk] (by rw[qcs ws us k (ae HUL) (by have:=ae HKW;omega)];exact ae HKW)
 have hS:=bn wn g [.string uk] k
 have JN:Hid (p9 0 (wn.setCell ⟨g,k,none⟩ (.string uk)) g (zgn ws us (k+1))):=by
  have e:=qcr ws us k (ae HUL) (ae HKW)
  unfold dm at e
  rw[← ae HUK] at e
  rw[← e]
  exact hput
 have JB:Hid (But [] w (wn.setCell ⟨g,k,none⟩ (.string uk))):=((ae IB).trans' hb).trans hS (fun x hx=>by simp at hx;subst hx;exact .inr hwg)
 have JD:Hid (rf (wn.setCell ⟨g,k,none⟩ (.string uk)) g1 kd s x y p fr li ti pr nm):=((ae ID).but hb (by simp)).but hS (by simp;omega)
 clear hb hput hS N2 HSK IB ID IN ck d0 d1 d2 d3 d4 d5 d6 d7 d8 d9
 go_wp2
 exact⟨⟨k+1,by omega,by go_num,ae JB,ae JD,ae JN⟩,by simp[intOf];omega⟩)
 ·(
 obtain rfl:k=n:=by omega
 have hul:us.length=ws.length:=by have:=ae HN;have:=ae HL;omega
 have WA:zpa wr (.slice (some ⟨g,0,none⟩) k cap) us:=by
  refine⟨some ⟨g,0,none⟩,cap,by rw[ae HL],fun i z hz=>⟨g,0,rfl,?_⟩⟩
  rw[Nat.zero_add]
  refine (ae IN).cells i _ ?_
  unfold zgn
  rw[List.take_of_length_le (by have:=ae HL;omega),List.drop_eq_nil_of_le (by have:=ae HN;omega),List.append_nil,List.getElem?_map,hz]
  rfl
 have HJ:=af (ae JO g cap wr WA hcap (ae IN).lt)
 have IB2:=af (ae IB)
 obtain⟨T,hT⟩:∃ T,T=dm (jn 32 us):=⟨_,rfl⟩
 rw[← hT] at HJ
 have HT:=af hT
 clear hT
 clear WA ID IN IB JO SD hul
 go_wp2_with fail
 refine (ae HJ).mono ?_
 rintro e wn ⟨rfl,hb⟩
 have B5:=af ((ae IB2).trans' hb)
 clear hb HJ IB2
 go_wp2
 exact bodyPost_ret (v:=T) (by simp[results,results75,go_sem]) rfl ⟨by rw[ae HT],ae B5⟩)))
def txW (l:Ln):List (List UInt8):=wsF l (zcy l.f) (zaq l.kd l.ti)
def tx (l:Ln):List UInt8:=jn 32 (txW l)
def txL (ls:List Ln) (i:Nat):List UInt8:=(ls.take i).flatMap fun l=>tx l++[10]
theorem zji (ls:List Ln) (i:Nat) (l:Ln) (h:ls[i]? = some l):txL ls (i+1)=txL ls i++tx l++[10]:=by(
 unfold txL
 rw[List.take_add_one,h]
 simp)
theorem ztx (ls:List Ln) (hT:∀ l ∈ ls,(tx l).length≤1000):∀ i,(txL ls i).length≤1001*i
 | 0=>by simp[txL]
 | i+1=>by
  have ih:=ztx ls hT i
  cases h:ls[i]? with
  | none =>
   have:txL ls (i+1)=txL ls i:=by unfold txL;rw[List.take_add_one,h];simp
   rw[this];omega
  | some l =>
   rw[zji ls i l h]
   have:=hT l (List.mem_of_getElem? h)
   simp only[List.length_append,List.length_cons,List.length_nil]
   omega
def zpc (l:Ln):Prop:=¬ (l.ti=0∧l.pr≠0)
open Classical in
noncomputable def txE (ls:List Ln):Int:=if tyE ls≠0 then tyE ls else if ∀ l ∈ ls,zpc l then 0 else 1
theorem zlp (q:Option Addr) (n c:Nat) (ls:List Ln) (mx:Int) (w:World) (hv:zce w (.slice q n c) ls) (lf:∀ l ∈ ls,Len l.f 1) (hbig:∀ l ∈ ls,l.toB.size<9223372036854775808) (hT:(n≤40∧qgl ls n)→∀ l ∈ ls,(tx l).length≤1000) (htab:Lib.TabIs prog w "internal/strconv.uint64pow10" .u64 Lib.pow10Tab) (hF:uo w) (hm:w.cell? ⟨3,0,none⟩=some (.int .i64 mx)) :
   Calls prog 23 #[.slice q n c] w fun e w'=>e=.returned (.tuple #[.string (if txE ls=0 then ⟨(txL ls n).toArray⟩ else ⟨#[]⟩),zei (txE ls)])∧But [] w w':=by(
 have hnl:n=ls.length:=by
  obtain⟨a,cap,e,-⟩:=hv
  simp only[Value.slice.injEq] at e
  exact e.2.1
 have CH:=af (zjk q n c ls w hv lf hbig)
 have HV:=af hv
 have HNL:=af hnl
 have HT:=af hT
 have LT:Hid (∀ l ∈ ls,zmj l→∀ s x y p W0,But [] w W0→am W0 (.agg #[.bool s,.int .u64 x,.int .u64 y,.pointer p]) l.f→(tx l).length≤1000→Calls prog 75 #[zh l.kd s x y p l.fr l.li l.ti l.pr l.toB] W0 fun e w'=>e=.returned (dm (tx l))∧But [] W0 w'):=fun l hl hok s x y p W0 hW hf hlen=>by
  obtain⟨f1,f2,f3⟩:=zva l.kd l.ti hok.1.1 hok.1.2
  refine zoi l.kd l.f s x y p l.fr l.li l.ti l.pr l.toB (zcy l.f) (zaq l.kd l.ti) f1 f2 f3 hok.2.2.1 (txW l) rfl (by have:=hlen;unfold tx at this;omega) mx W0 (TabIs.but htab hW) (fun W hW2=>?_) (hF.but hW) (hW.ag hm (by simp))
  have h:=zor (.agg #[.bool s,.int .u64 x,.int .u64 y,.pointer p]) l.f W (hf.but hW2) ((lf l hl).mono (by omega)) (TabIs.but htab (hW.trans' hW2)) (uh (decide (l.f.num<0)) l.f.num.natAbs l.f.den) (af rfl)
  have e:(⟨(zcy l.f).toArray⟩:ByteArray)=uh (decide (l.f.num<0)) l.f.num.natAbs l.f.den:=by unfold zcy;simp
  rw[e]
  exact h
 obtain⟨RZ,hRZ⟩:∃ RZ,RZ=txE ls:=⟨_,rfl⟩
 obtain⟨RT,hRT⟩:∃ RT:ByteArray,RT=(if txE ls=0 then ⟨(txL ls n).toArray⟩ else ⟨#[]⟩):=⟨_,rfl⟩
 have ONE:Hid (txE ls=1→RZ=1∧RT=⟨#[]⟩):=fun h=>⟨by rw[hRZ,h],by rw[hRT,h];rfl⟩
 have NUL:Hid (txE ls=0→RZ=0∧RT=⟨(txL ls n).toArray⟩):=fun h=>⟨by rw[hRZ,h],by rw[hRT,if_pos h]⟩
 have OTH:Hid (∀ z,txE ls=z→z≠0→RZ=z∧RT=⟨#[]⟩):=fun z h h2=>⟨by rw[hRZ,h],by rw[hRT,if_neg (by rw[h];exact h2)]⟩
 rw[← hRT,← hRZ]
 clear hv hbig hT htab hF hm lf hnl hRT hRZ
 go_enter func23,ntmps23
 go_wp2_with fail
 refine (ae CH).mono ?_
 rintro e w1 ⟨rfl,hb1⟩
 by_cases hz:tyE ls=0
 ·(
 have hok:n≤40∧qgl ls n:=by have h:=zrn ls hz;rw[← ae HNL] at h;exact h
 have HZ:=af hz
 rw[show zei (tyE ls)=.nilIface from by rw[hz];rfl]
 clear hz
 have n40:n≤40:=hok.1
 have HOK:=af hok
 have HB1:=af hb1
 have TL:=af (ae HT hok)
 obtain⟨U,hU⟩:∃ U,U=w1.alloc (.cells #[.pointer none,.slice none 0 0] 143):=⟨_,rfl⟩
 have bU:But [] w1 U:=by rw[hU];exact (But.refl _ _).alloc _
 have lU:w1.heap.size<U.heap.size:=by rw[hU];simp
 have dU:mh U w1.heap.size []:=by rw[hU];exact mh.new w1
 obtain⟨b,hb⟩:∃ b,b=w1.heap.size:=⟨_,rfl⟩
 rw[← hb] at dU lU
 have I0:Hid (mh U b (txL ls 0)∧But [] w1 U∧b<U.heap.size):=⟨dU,bU,lU⟩
 have BB:Hid (∀ X Y,But [] w1 X→Below b X Y→But [] w1 Y):=fun X Y h1 h2=>zxy h1 (by rw[← hb];exact h2)
 clear hok hb1 CH dU bU lU HT
 dsimp only
 go_wp2
 rw[← hU,← hb]
 clear hU hb
 go_loopw [15] (fun iv wr=>∃ i:Nat,i≤n∧iv=.int .i64 (i:Int)∧Hid (mh wr b (txL ls i)∧But [] w1 wr∧b<wr.heap.size)∧Hid (∀ j l,j<i→ls[j]? = some l→zpc l)) (fun iv _=>n-(intOf iv).toNat)
 case atStart=>exact⟨0,Nat.zero_le _,rfl,ae I0,fun j l hj=>absurd hj (by omega)⟩
 case round =>(
 obtain⟨i,hi,rfl,HI,HP⟩:=hrel
 rename World=>wr
 clear I0
 by_cases hlt:i<n
 ·(
 have hltc:((i:Nat):Int)<(n:Int):=by omega
 have hil:i<ls.length:=by have:=ae HNL;omega
 obtain⟨l,hge⟩:∃ l,ls[i]? = some l:=⟨_,List.getElem?_eq_getElem hil⟩
 have BWR:Hid (But [] w wr):=(ae HB1).trans' (ae HI).2.1
 have HMEM:=af (List.mem_of_getElem? hge)
 have hlo:=(ae HOK).2 i l hlt hge
 have HLO:=af hlo.1
 have HGE:=af hge
 have hlen:=ae TL l (ae HMEM)
 have hlen2:=ztx ls (ae TL) i
 have NXT:=af (zji ls i l hge)
 obtain⟨a,cap,ea,hca,hla⟩:=(ae HV).but (ae BWR)
 simp only[Value.slice.injEq] at ea
 obtain⟨rb,ro,e1,s,x,y,p,⟨d0,d1,d2,d3,d4,d5,d6,d7,d8,d9⟩,hf⟩:=hla i l hge
 obtain rfl:q=some ⟨rb,ro,none⟩:=ea.1.trans e1
 have hcn:n≤c:=by rw[ea.2.2];have:=ae HNL;omega
 clear ea e1 hca hla hlo hge
 obtain⟨T,hTx⟩:∃ T,T=tx l:=⟨_,rfl⟩
 obtain⟨L,hL⟩:∃ L,L=txL ls i:=⟨_,rfl⟩
 have TXC:=ae LT l (ae HMEM) (ae HLO) s x y p
 rw[← hTx] at TXC hlen NXT
 rw[← hL] at hlen2 NXT
 have HI0:Hid (mh wr b L):=by show mh _ _ _;rw[hL];exact (ae HI).1
 have HFR:=af hf
 have HLP:Hid (∀ j m,j<i+1→ls[j]? = some m→zpc l→zpc m):=fun j m hj hm hp=>by
  rcases Nat.lt_or_ge j i with h | h
  ·exact ae HP j m h hm
  ·obtain rfl:j=i:=by omega
   obtain rfl:=Option.some.inj ((ae HGE).symm.trans hm)
   exact hp
 have HNP:Hid (¬ zpc l→txE ls=1):=fun h1=>by show txE ls=1;unfold txE;rw[if_neg (fun h=>h (ae HZ)),if_neg (fun h=>h1 (h l (ae HMEM)))]
 obtain⟨kd,f,fr,li,ti,pr,nm⟩:=l
 simp only at d0 d1 d2 d3 d4 d5 d6 d7 d8 d9
 unfold zh at TXC
 simp only at TXC
 have bA:But [] wr (wr.alloc (.cells #[.int .i64 kd,.bool s,.int .u64 x,.int .u64 y,.pointer p,.int .i64 fr,.int .i64 li,.int .i64 ti,.int .i64 pr,.string nm] 77)):=(But.refl [] wr).alloc _
 have TXC2:=af (TXC (wr.alloc (.cells #[.int .i64 kd,.bool s,.int .u64 x,.int .u64 y,.pointer p,.int .i64 fr,.int .i64 li,.int .i64 ti,.int .i64 pr,.string nm] 77)) ((ae BWR).trans' bA) ((ae HFR).but bA) hlen)
 have HB2:=af ((ae HI).2.1.trans' bA)
 have HI2:=af ((ae HI0).but bA)
 have hbl:b<(wr.alloc (.cells #[.int .i64 kd,.bool s,.int .u64 x,.int .u64 y,.pointer p,.int .i64 fr,.int .i64 li,.int .i64 ti,.int .i64 pr,.string nm] 77)).heap.size:=Nat.lt_of_lt_of_le (ae HI).2.2 bA.size
 have HBL:=af hbl
 clear TXC hTx hL hf bA HFR HI0 HI hil BWR hbl
 by_cases ht:ti=0
 ·(
 have ht2:(ti==0)=true:=by simpa using ht
 by_cases hp:pr=0
 ·(
 have hp2:(pr != 0)=false:=by simpa using hp
 have POK:Hid (zpc ⟨kd,f,fr,li,ti,pr,nm⟩):=fun h=>h.2 hp
 clear ht hp HNP
 go_wp2_with fail
 refine (ae TXC2).mono ?_
 rintro e w2 ⟨rfl,hb2⟩
 have WS:=af (zcf b L ⟨T.toArray⟩ w2 ((ae HI2).but hb2) (by omega) (by show T.toArray.size<_;simp;omega) (Nat.lt_of_lt_of_le (ae HBL) hb2.size))
 have HB3:=af ((ae HB2).trans' hb2)
 have hl2:=af (Nat.lt_of_lt_of_le (ae HBL) hb2.size)
 unfold dm
 clear hb2 TXC2 HB2 HI2
 dsimp only
 go_wp2_with fail
 refine (ae WS).mono ?_
 rintro e w3 ⟨rfl,h3,hb3⟩
 have WB:=zdr b (L++(⟨T.toArray⟩:ByteArray).data.toList) 10 w3 h3 (by simp;omega) (Nat.lt_of_lt_of_le (ae hl2) hb3.size)
 rw[show ((10:UInt8).toNat:Int)=10 from rfl] at WB
 have HWB:=af WB
 have HB4:=af (ae BB _ _ (ae HB3) hb3)
 have hl3:=af (Nat.lt_of_lt_of_le (ae hl2) hb3.size)
 clear h3 hb3 WS WB HB3
 dsimp only
 go_wp2_with fail
 refine (ae HWB).mono ?_
 rintro e w4 ⟨rfl,h4,hb4⟩
 have NX:Hid (mh w4 b (txL ls (i+1))∧But [] w1 w4∧b<w4.heap.size):=by
  refine⟨?_,ae BB _ _ (ae HB4) hb4,Nat.lt_of_lt_of_le (ae hl3) hb4.size⟩
  rw[ae NXT]
  exact h4
 clear h4 hb4 HWB HB4
 dsimp only
 go_wp2
 exact⟨⟨i+1,by omega,by go_num,ae NX,fun j m hj hm=>ae HLP j m hj hm (ae POK)⟩,by simp[intOf];omega⟩)
 ·(
 have hp2:(pr != 0)=true:=by simpa using hp
 have NOK:=af (ae HNP (fun h=>h ⟨ht,hp⟩))
 have BF:=af ((ae HB1).trans' (ae HB2))
 clear ht hp HNP TXC2 HB2 HI2 HB1
 go_wp2
 exact bodyPost_ret (v:=.tuple #[.string ⟨#[]⟩,.iface 33 (.int .i64 1)]) (by simp[results,results23,go_sem]) rfl ⟨by rw[(ae ONE (ae NOK)).1,(ae ONE (ae NOK)).2];rfl,ae BF⟩))
 ·(
 have ht2:(ti==0)=false:=by simpa using ht
 have POK:Hid (zpc ⟨kd,f,fr,li,ti,pr,nm⟩):=fun h=>ht h.1
 clear HNP
 go_wp2_with fail
 refine (ae TXC2).mono ?_
 rintro e w2 ⟨rfl,hb2⟩
 have WS:=af (zcf b L ⟨T.toArray⟩ w2 ((ae HI2).but hb2) (by omega) (by show T.toArray.size<_;simp;omega) (Nat.lt_of_lt_of_le (ae HBL) hb2.size))
 have HB3:=af ((ae HB2).trans' hb2)
 have hl2:=af (Nat.lt_of_lt_of_le (ae HBL) hb2.size)
 unfold dm
 clear hb2 TXC2 HB2 HI2
 dsimp only
 go_wp2_with fail
 refine (ae WS).mono ?_
 rintro e w3 ⟨rfl,h3,hb3⟩
 have WB:=zdr b (L++(⟨T.toArray⟩:ByteArray).data.toList) 10 w3 h3 (by simp;omega) (Nat.lt_of_lt_of_le (ae hl2) hb3.size)
 rw[show ((10:UInt8).toNat:Int)=10 from rfl] at WB
 have HWB:=af WB
 have HB4:=af (ae BB _ _ (ae HB3) hb3)
 have hl3:=af (Nat.lt_of_lt_of_le (ae hl2) hb3.size)
 clear h3 hb3 WS WB HB3
 dsimp only
 go_wp2_with fail
 refine (ae HWB).mono ?_
 rintro e w4 ⟨rfl,h4,hb4⟩
 have NX:Hid (mh w4 b (txL ls (i+1))∧But [] w1 w4∧b<w4.heap.size):=by
  refine⟨?_,ae BB _ _ (ae HB4) hb4,Nat.lt_of_lt_of_le (ae hl3) hb4.size⟩
  rw[ae NXT]
  exact h4
 clear h4 hb4 HWB HB4
 dsimp only
 go_wp2
 exact⟨⟨i+1,by omega,by go_num,ae NX,fun j m hj hm=>ae HLP j m hj hm (ae POK)⟩,by simp[intOf];omega⟩))
 ·(
 obtain rfl:i=n:=by omega
 have ST:=af (zfu b (txL ls i) wr (ae HI).1 (ae HI).2.2)
 have hall:∀ l ∈ ls,zpc l:=fun l hl=>by
  obtain⟨j,hj,rfl⟩:=List.getElem_of_mem hl
  exact ae HP j _ (by have:=ae HNL;omega) (List.getElem?_eq_getElem hj)
 have TOK:Hid (txE ls=0):=by show txE ls=0;unfold txE;rw[if_neg (fun h=>h (ae HZ)),if_pos hall]
 clear hall
 have HI2:=af (ae HI).2.1
 obtain⟨T,hTx⟩:∃ T:ByteArray,T=⟨(txL ls i).toArray⟩:=⟨_,rfl⟩
 rw[← hTx] at ST
 have HTX:=af hTx
 clear hTx HI HP
 go_wp2_with fail
 refine (ae ST).mono ?_
 rintro e wn ⟨rfl,hbn⟩
 have BF:=af ((ae HB1).trans' (ae BB _ _ (ae HI2) hbn))
 clear hbn ST HI2
 go_wp2
 exact bodyPost_ret (v:=.tuple #[.string T,.nilIface]) (by simp[results,results23,go_sem]) rfl ⟨by rw[(ae NUL (ae TOK)).1,(ae NUL (ae TOK)).2,ae HTX];rfl,ae BF⟩)))
 ·(
 have hx:txE ls=tyE ls:=by unfold txE;rw[if_pos hz]
 have HX:Hid (txE ls≠0):=by show _≠_;rw[hx];exact hz
 obtain⟨z,hzz⟩:∃ z,z=tyE ls:=⟨_,rfl⟩
 rw[← hzz] at hz hx ⊢
 have HX2:=af hx
 have BF:=af hb1
 rw[show zei z=.iface 33 (.int .i64 z) from if_neg hz]
 have HZ:=af hz
 clear hzz hx hz hb1 CH HT LT
 go_wp2
 exact bodyPost_ret (v:=.tuple #[.string ⟨#[]⟩,.iface 33 (.int .i64 z)]) (by simp[results,results23,go_sem]) rfl ⟨by rw[(ae OTH _ (ae HX2) (ae HZ)).1,(ae OTH _ (ae HX2) (ae HZ)).2,show zei z=.iface 33 (.int .i64 z) from if_neg (ae HZ)],ae BF⟩))
theorem zfk (z:Int) (h0:0≤z) (h1:z≤1000000000000000):zpb (Lib.itoa z):=⟨zvj [z] (fun x hx=>by simp at hx;omega) _ (by simp),Nat.le_trans (qdf z h0 h1) (by omega)⟩
theorem qfq (s:ByteArray) (h:qd s):zpb s.data.toList:=by(
 obtain⟨h1,h2,h3⟩:=h
 have hs:s.data.toList.length=s.size:=by rw[Array.length_toList];rfl
 have k:∀ u:UInt8,(u=32∨u=10)→u ∉ s.data.toList:=fun u hu hm=>by
  obtain⟨j,hj,rfl⟩:=List.getElem_of_mem hm
  have:=h1 j (by omega)
  rw[List.getD_eq_getElem?_getD,List.getElem?_eq_getElem hj] at this
  simp only[Option.getD_some] at this
  rcases hu with e | e <;> rw[e] at this <;> simp[okB] at this
 exact⟨⟨fun h=>by rw[h] at hs;simp at hs;omega,k 32 (.inl rfl),k 10 (.inr rfl)⟩,by omega⟩)
theorem qid (l:Ln) (hok:zmj l) (lf:Len l.f 1):(∀ x ∈ txW l,zpb x)∧(txW l).length≤10∧0<(txW l).length:=by(
 obtain⟨hk,hn,hr,-⟩:=hok
 have hL:=lf.lt
 rw[Nat.pow_one] at hL
 have o1:=zqw l.f hL.1 hL.2
 have o2:=qfq l.toB hn
 obtain⟨r1,r2,r3,r4⟩:=hr
 have o3:=zfk l.fr r1.1 (by omega)
 have o4:=zfk l.li r2.1 (by omega)
 have o5:=zfk l.ti r4.1 (by omega)
 have o6:=zfk l.pr r3.1 (by omega)
 have hf:=(zva l.kd l.ti hk.1 hk.2).1
 unfold txW
 generalize zaq l.kd l.ti=j at hf ⊢
 have:j=0∨j=1∨j=2∨j=3∨j=4:=by omega
 rcases this with rfl|rfl|rfl|rfl|rfl
 all_goals(
 refine⟨fun x hx=>?_,by simp[wsF],by simp[wsF]⟩
 simp only[wsF,List.mem_cons,List.not_mem_nil,or_false] at hx
 rcases hx with rfl|rfl|rfl|rfl | hx
 all_goals first | assumption | exact⟨by decide,by decide⟩ | skip)
 all_goals
  rcases hx with rfl | hx
  all_goals first | assumption | exact⟨by decide,by decide⟩ | skip
 all_goals(
 first
 | (subst hx;first | assumption | exact⟨by decide,by decide⟩)
 | (rcases hx with rfl|rfl|rfl|rfl|rfl <;> first | assumption | exact⟨by decide,by decide⟩)))
theorem zyi (l:Ln) (hok:zmj l) (lf:Len l.f 1):(tx l).length≤1000:=by(
 obtain⟨h1,h2,-⟩:=qid l hok lf
 have:=zqp 32 60 (txW l) (fun x hx=>(h1 x hx).2)
 have h3:(txW l).length*61≤10*61:=Nat.mul_le_mul_right 61 h2
 unfold tx
 omega)
def fB (f:Rat):ByteArray:=⟨(zcy f).toArray⟩
def iB (z:Int):ByteArray:=⟨(Lib.itoa z).toArray⟩
theorem zyw (ls:List Ln):rxE ls=txE ls:=by(
 unfold rxE txE
 by_cases h:tyE ls≠0
 ·rw[if_pos h,if_pos h]
 ·rw[if_neg h,if_neg h]
  by_cases h2:∀ l ∈ ls,zpc l
  ·rw[if_pos h2,if_pos (show ∀ l ∈ ls,¬ (l.ti=0∧l.pr≠0) from fun l hl=>h2 l hl)]
  ·rw[if_neg h2,if_neg (show ¬ ∀ l ∈ ls,¬ (l.ti=0∧l.pr≠0) from fun h3=>h2 (fun l hl=>h3 l hl))])
theorem qgk {a b:ByteArray} (h:a.data.toList=b.data.toList):a=b:=by
 cases a;cases b;simp only[ByteArray.mk.injEq];exact Array.ext' h
theorem zfv (a b:ByteArray):(a++b).data.toList=a.data.toList++b.data.toList:=by simp
theorem qja (s:List UInt8) (l:Ln) (h:1≤l.kd∧l.kd≤4):rtS fB iB ⟨s.toArray⟩ l=⟨(s++tx l++[10]).toArray⟩:=by(
 apply qgk
 unfold rtS rtB tx txW zaq
 by_cases h1:l.kd=1
 ·rw[if_pos h1,if_pos h1]
  simp only[zfv,fB,wsF,jn,List.append_assoc,List.cons_append,List.nil_append]
 ·(
 rw[if_neg h1,if_neg h1]
 by_cases h2:l.kd=2
 ·rw[if_pos h2,if_pos h2]
  simp only[zfv,iB,wsF,jn,List.append_assoc,List.cons_append,List.nil_append]
 ·(
 rw[if_neg h2,if_neg h2]
 by_cases h3:l.kd=3
 ·(
 rw[if_pos h3,if_pos h3]
 by_cases h4:l.ti=0
 ·rw[if_pos h4,if_pos h4]
  simp only[zfv,iB,wsF,jn,List.append_assoc,List.cons_append,List.nil_append]
 ·rw[if_neg h4,if_neg h4]
  simp only[zfv,iB,wsF,jn,List.append_assoc,List.cons_append,List.nil_append])
 ·rw[if_neg h3,if_neg h3]
  simp only[zfv,iB,wsF,jn,List.append_assoc,List.cons_append,List.nil_append])))
theorem zza (ls:List Ln) (h:∀ l ∈ ls,1≤l.kd∧l.kd≤4):∀ k,rtL fB iB ls k=⟨(txL ls k).toArray⟩
 | 0=>by simp[rtL,txL]
 | k+1=>by
  have ih:=zza ls h k
  cases hg:ls[k]? with
  | none =>
   have e:rtL fB iB ls (k+1)=rtL fB iB ls k:=by
    show (match ls[k]? with | some l=>rtS fB iB (rtL fB iB ls k) l | none=>rtL fB iB ls k)=_
    rw[hg]
   have e2:txL ls (k+1)=txL ls k:=by unfold txL;rw[List.take_add_one,hg];simp
   rw[e,e2,ih]
  | some l =>
   rw[zjy fB iB ls k l hg,zji ls k l hg,ih]
   exact qja _ l (h l (List.mem_of_getElem? hg))
theorem qeu (ls:List Ln):(if rxE ls=0 then rtL fB iB ls ls.length else ⟨#[]⟩)=(if txE ls=0 then (⟨(txL ls ls.length).toArray⟩:ByteArray) else ⟨#[]⟩):=by(
 rw[zyw]
 by_cases h:txE ls=0
 ·(
 rw[if_pos h,if_pos h]
 have hz:tyE ls=0:=by
  unfold txE at h
  by_cases hz:tyE ls≠0
  ·rw[if_pos hz] at h;exact absurd h hz
  ·exact Classical.not_not.1 hz
 obtain⟨-,ok⟩:=zrn ls hz
 refine zza ls (fun l hl=>?_) _
 obtain⟨i,hi,rfl⟩:=List.getElem_of_mem hl
 exact (ok i _ hi (List.getElem?_eq_getElem hi)).1.1)
 ·rw[if_neg h,if_neg h])
theorem qdp (f:Rat) (lf:Len f 1):(fB f).size≤100:=by(
 have h:=(zqw f lf.lt.1 lf.lt.2).2
 show (zcy f).toArray.size≤100
 simp only[List.size_toArray]
 omega)
theorem qkn (f:Rat):fB f=uh (decide (f.num<0)) f.num.natAbs f.den:=by unfold fB zcy;simp
theorem qdj (z:Int) (h0:0≤z) (h1:z≤1000000000000):(iB z).size≤100:=by(
 show (Lib.itoa z).toArray.size≤100
 simp only[List.size_toArray]
 have:=(zfk z h0 (by omega)).2
 omega)
end Go.Proofs.YtjlfllhedceigaaGreatDoor
