/- What is written of lines is words, short -/
import Derived.Test.YtcgecpoedojhjaaGreatDoorKPAZf
import Derived.Test.YtcgecpoedojhjaaGreatDoorKPBE
namespace Go.Proofs.YtcgecpoedojhjaaGreatDoor
open Go.Proofs.Tryz
open Go.RowKit Go.Shelf
set_option maxHeartbeats 32000000
set_option maxRecDepth 100000
set_option linter.unusedVariables false
def zrk (x:List UInt8):Prop:=(x≠[]∧(32:UInt8) ∉ x∧(10:UInt8) ∉ x)∧x.length≤60
theorem zmm (f:Rat):zcy f=(if f.num<0 then 45::Lib.decDigits f.num.natAbs else Lib.decDigits f.num.natAbs)++(if f.den=1 then [] else 47::Lib.decDigits f.den):=by
 unfold zcy ru
 by_cases h1:f.num<0 <;> by_cases h2:f.den=1 <;> simp[h1,h2]
theorem qfx (f:Rat) (hN:f.num.natAbs < 18446744073709551616) (hD:f.den < 18446744073709551616):zrk (zcy f):=by
 have d1:=zaw 19 f.num.natAbs (by omega)
 have d2:=zaw 19 f.den (by omega)
 have n1:=zhn f.num.natAbs
 have nB:∀ (u:UInt8) n,u ∈ Lib.decDigits n→48≤u.toNat∧u.toNat≤57:=fun u n h=>zcm n u h
 have k:∀ u:UInt8,(u=32∨u=10)→u ∉ zcy f:=fun u hu hm=>by
  rw[zmm] at hm
  have a1:u ∉ Lib.decDigits f.num.natAbs:=fun h=>by have:=nB u _ h;rcases hu with rfl|rfl <;> simp at this
  have a2:u ∉ Lib.decDigits f.den:=fun h=>by have:=nB u _ h;rcases hu with rfl|rfl <;> simp at this
  rcases List.mem_append.1 hm with h | h
  ·split at h
   ·rcases List.mem_cons.1 h with h | h
    ·subst h;simp at hu
    ·exact a1 h
   ·exact a1 h
  ·split at h
   ·simp at h
   ·rcases List.mem_cons.1 h with h | h
    ·subst h;simp at hu
    ·exact a2 h
 refine⟨⟨?_,k 32 (.inl rfl),k 10 (.inr rfl)⟩,?_⟩
 ·rw[zmm]
  intro h
  have:=(List.append_eq_nil_iff.1 h).1
  split at this
  ·simp at this
  ·exact n1 this
 ·rw[zmm,List.length_append]
  split <;> split <;> simp only[List.length_cons,List.length_nil] <;> omega
theorem zjs (z:Int) (h0:0≤z) (h1:z≤1000000000000000):zrk (Lib.itoa z):=⟨zyc [z] (fun x hx=>by simp at hx;omega) _ (by simp),Nat.le_trans (qfr z h0 h1) (by omega)⟩
theorem zxj (s:ByteArray) (h:kr s):zrk s.data.toList:=by
 obtain⟨h1,h2,h3⟩:=h
 have hs:s.data.toList.length=s.size:=by rw[Array.length_toList];rfl
 have k:∀ u:UInt8,(u=32∨u=10)→u ∉ s.data.toList:=fun u hu hm=>by
  obtain⟨j,hj,rfl⟩:=List.getElem_of_mem hm
  have:=h1 j (by omega)
  rw[List.getD_eq_getElem?_getD,List.getElem?_eq_getElem hj] at this
  simp only[Option.getD_some] at this
  rcases hu with e | e <;> rw[e] at this <;> simp[okB] at this
 exact⟨⟨fun h=>by rw[h] at hs;simp at hs;omega,k 32 (.inl rfl),k 10 (.inr rfl)⟩,by omega⟩
theorem zps (l:Ln) (hok:di l) (lf:Len l.f 1):(∀ x ∈ txW l,zrk x)∧(txW l).length≤10∧0<(txW l).length:=by
 obtain⟨hk,hn,hr,-⟩:=hok
 have hL:=lf.lt
 rw[Nat.pow_one] at hL
 have o1:=qfx l.f hL.1 hL.2
 have o2:=zxj l.to hn
 obtain⟨r1,r2,r3,r4⟩:=hr
 have o3:=zjs l.fr r1.1 (by omega)
 have o4:=zjs l.li r2.1 (by omega)
 have o5:=zjs l.ti r4.1 (by omega)
 have o6:=zjs l.pr r3.1 (by omega)
 have hf:=(zxr l.kd l.ti hk.1 hk.2).1
 unfold txW
 generalize ut l.kd l.ti=j at hf ⊢
 have:j=0∨j=1∨j=2∨j=3∨j=4:=by omega
 rcases this with rfl|rfl|rfl|rfl|rfl
 all_goals
  refine⟨fun x hx=>?_,by simp[wsF],by simp[wsF]⟩
  simp only[wsF,List.mem_cons,List.not_mem_nil,or_false] at hx
  rcases hx with rfl|rfl|rfl|rfl | hx
  all_goals first | assumption | exact⟨by decide,by decide⟩ | skip
 all_goals
  rcases hx with rfl | hx
  all_goals first | assumption | exact⟨by decide,by decide⟩ | skip
 all_goals
  first
  | (subst hx;first | assumption | exact⟨by decide,by decide⟩)
  | (rcases hx with rfl|rfl|rfl|rfl|rfl<;>first | assumption | exact⟨by decide,by decide⟩)
theorem zti (d:UInt8) (m:Nat):∀ xs:List (List UInt8),(∀ x ∈ xs,x.length≤m)→(jn d xs).length≤xs.length*(m+1)
 | [],_=>by simp[jn]
 | [x],h=>by
  have:=h x (by simp)
  simp only[jn,List.length_cons,List.length_nil]
  omega
 | x::y::l,h=>by
  have h1:=h x (by simp)
  have h2:=zti d m (y::l) (fun z hz=>h z (List.mem_cons_of_mem _ hz))
  simp only[jn,List.length_append,List.length_cons] at h2 ⊢
  rw[Nat.add_mul (l.length+1) 1,Nat.one_mul]
  omega
theorem zru (l:Ln) (hok:di l) (lf:Len l.f 1):(tx l).length≤1000:=by
 obtain⟨h1,h2,-⟩:=zps l hok lf
 have:=zti 32 60 (txW l) (fun x hx=>(h1 x hx).2)
 have h3:(txW l).length*61≤10*61:=Nat.mul_le_mul_right 61 h2
 unfold tx
 omega
def lnV (l:Ln):Value:=.agg #[.int .i64 l.kd,.bool (decide (l.f.num<0)),.int .u64 (l.f.num.natAbs:Int),.int .u64 ((l.f.den:Int)-1),.pointer none,.int .i64 l.fr,.int .i64 l.li,.int .i64 l.ti,.int .i64 l.pr,.string l.to]
theorem zfg (f:Rat) (h:f.num=0):f=0:=Rat.num_eq_zero.1 h
theorem zvd (l:Ln) (hok:di l) (lf:Len l.f 1) (hp:zuh l) (q:Option Addr) (c:Nat) (mx:Int) (w:World) (htab:Lib.TabIs prog w "internal/strconv.uint64pow10" .u64 Lib.pow10Tab) (hw:lv w (.slice q (txW l).length c) (txW l)) (hF:xw w) (hm:w.cell? ⟨2,0,none⟩=some (.int .i64 mx)) :
  Calls prog 18 #[.slice q (txW l).length c] w fun e w'=>e=.returned (.tuple #[lnV l,.nilIface])∧But [] w w':=by
 have hL:=lf.lt
 rw[Nat.pow_one] at hL
 obtain⟨hN,hD⟩:=hL
 have hnl:l.to.data.toList.length≤1000000:=Nat.le_trans (zxj l.to hok.2.1).2 (by omega)
 obtain⟨kd,f,fr,li,ti,pr,nm⟩:=l
 obtain⟨u,rfl⟩:∃ u:List UInt8,nm=⟨u.toArray⟩:=⟨nm.data.toList,by cases nm;simp⟩
 simp only at hN hD lf hnl
 obtain⟨⟨k1,k4⟩,-,-,kk1,kk2,kk3,kk4⟩:=id hok
 simp only at k1 k4 kk1 kk2 kk3 kk4
 have:kd=1∨kd=2∨kd=3∨kd=4:=by omega
 rcases this with rfl|rfl|rfl|rfl
 ·obtain⟨-,rfl,rfl,rfl,rfl⟩:=kk1 rfl
  have e:txW ⟨1,f,0,0,0,0,⟨u.toArray⟩⟩=zjy (zcy f) u:=by simp[txW,ut,wsF,zjy]
  rw[e] at hw ⊢
  refine zfs f (decide (f.num<0)) (f.num.natAbs:Int) ((f.den:Int)-1) (zcy f) u (fun W=>.inl ⟨hN,hD,rfl⟩) lf (fun W=>?_) hnl hok q c mx w hw hF hm
  refine (zlh ⟨(zcy f).toArray⟩ f W (by unfold zcy;simp) hN hD).mono ?_
  rintro e w' ⟨v,rfl,hv,hb⟩
  rcases hv with ⟨-,-,rfl⟩|⟨h,-⟩
  ·exact⟨rfl,hb⟩
  ·omega
 ·obtain⟨-,h0,rfl,rfl⟩:=kk2 rfl
  obtain rfl:=zfg f h0
  have e:txW ⟨2,0,0,li,ti,0,⟨u.toArray⟩⟩=zrn li ti u:=by simp[txW,ut,wsF,zrn]
  rw[e] at hw ⊢
  exact zsj li ti u hnl hok q c mx w htab hw hF hm
 ·obtain⟨-,h0⟩:=kk3 rfl
  obtain rfl:=zfg f h0
  by_cases ht:ti=0
  ·subst ht
   obtain rfl:pr=0:=Classical.byContradiction fun h=>hp ⟨rfl,h⟩
   have e:txW ⟨3,0,fr,li,0,0,⟨u.toArray⟩⟩=zjx fr li u:=by simp[txW,ut,wsF,zjx]
   rw[e] at hw ⊢
   exact zhw fr li u hnl hok q c mx w htab hw hF hm
  ·have e:txW ⟨3,0,fr,li,ti,pr,⟨u.toArray⟩⟩=zol fr li ti pr u:=by simp[txW,ut,wsF,zol,ht]
   rw[e] at hw ⊢
   exact zsl fr li ti pr u hnl hok ht q c mx w htab hw hF hm
 ·obtain⟨h0,rfl,rfl⟩:=kk4 rfl
  obtain rfl:=zfg f h0
  have e:txW ⟨4,0,fr,li,0,0,⟨u.toArray⟩⟩=zro fr li u:=by simp[txW,ut,wsF,zro]
  rw[e] at hw ⊢
  exact zsk fr li u hnl hok q c mx w htab hw hF hm
theorem zwh (ls:List Ln) (wss:List (List (List UInt8))) (L:Nat→Ln) (hw:wss=ls.map txW++[[]]) (hL:∀ i l,ls[i]? = some l→L i=l) (hne:∀ l ∈ ls,txW l≠[]):mh wss L (List.finRange wss.length)=ls:=by
 have hlen:wss.length=ls.length+1:=by rw[hw];simp
 have key:∀ (m:Nat) (hm:m≤wss.length),m≤ls.length→((List.finRange wss.length).take m |>.filter (fun i=>!(wss[i.1]?.getD []).isEmpty)).map (fun i=>L i.1)=ls.take m:=by
  intro m
  induction m with
  | zero=>intro _ _;simp
  | succ m ih =>
   intro h1 h2
   have ih':=ih (by omega) (by omega)
   have hm:m<ls.length:=by omega
   have e1:(List.finRange wss.length)[m]? = some ⟨m,by omega⟩:=by
    rw[List.getElem?_eq_getElem (by simp;omega)]
    simp
   have e2:wss[m]? = some (txW ls[m]):=by
    rw[hw,List.getElem?_append_left (by simp;omega),List.getElem?_map,List.getElem?_eq_getElem hm]
    rfl
   rw[List.take_add_one,e1,List.take_add_one,List.getElem?_eq_getElem hm,List.filter_append,List.map_append,ih']
   have e3:(txW ls[m]).isEmpty=false:=by
    have:=hne ls[m] (List.getElem_mem hm)
    cases h:txW ls[m] with
    | nil=>exact absurd h this
    | cons a b=>rfl
   have e4:L m=ls[m]:=hL m _ (List.getElem?_eq_getElem hm)
   have e5:((some (⟨m,by omega⟩:Fin wss.length)).toList.filter (fun i=>!(wss[i.1]?.getD []).isEmpty))=[⟨m,by omega⟩]:=by
    show List.filter _ [_]=_
    rw[List.filter_cons_of_pos (by show (!(wss[m]?.getD []).isEmpty)=true;rw[e2];simp only[Option.getD_some,e3];rfl),List.filter_nil]
   rw[e5]
   show ls.take m++[L m]=ls.take m++[ls[m]]
   rw[e4]
 have all:(List.finRange wss.length)=(List.finRange wss.length).take ls.length++[⟨ls.length,by omega⟩]:=by
  have h1:(List.finRange wss.length).take (ls.length+1)=List.finRange wss.length:=List.take_of_length_le (by simp;omega)
  rw[List.take_add_one] at h1
  have e1:(List.finRange wss.length)[ls.length]? = some ⟨ls.length,by omega⟩:=by
   rw[List.getElem?_eq_getElem (by simp;omega)]
   simp
  rw[e1] at h1
  exact h1.symm
 unfold mh
 rw[all,List.filter_append,List.map_append,key ls.length (by omega) (Nat.le_refl _),List.take_length]
 have e:wss[ls.length]? = some []:=by rw[hw,List.getElem?_append_right (by simp)];simp
 rw[List.filter_cons_of_neg (by show ¬ (!(wss[ls.length]?.getD []).isEmpty)=true;rw[e];simp),List.filter_nil,List.map_nil,List.append_nil]
theorem qov (ls:List Ln):txL ls ls.length=jn 10 ((ls.map txW++[[]]).map (jn 32)):=by
 rw[List.map_append,List.map_map]
 have:([([]:List (List UInt8))].map (jn 32))=[[]]:=rfl
 rw[this,ztj]
 unfold txL
 rw[List.take_length,List.flatMap_map]
 rfl
theorem znt (ls:List Ln) (n:Nat) (hn:n=ls.length) (hok:zwv ls n) (lf:∀ l ∈ ls,Len l.f 1) (mx:Int) (w:World) (htab:Lib.TabIs prog w "internal/strconv.uint64pow10" .u64 Lib.pow10Tab) (hF:xw w) (hm:w.cell? ⟨2,0,none⟩=some (.int .i64 mx)) :
  Calls prog 7 #[.string ⟨(txL ls n).toArray⟩] w fun e w'=>∃ v,e=.returned (.tuple #[v,.nilIface])∧y7 w.heap.size w' v ls∧But [] w w':=by
 subst hn
 obtain⟨⟨h40,htr⟩,hpr⟩:=hok
 have hln:∀ l ∈ ls,di l:=fun l hl=>by
  obtain⟨i,hi,rfl⟩:=List.getElem_of_mem hl
  exact (htr i _ hi (List.getElem?_eq_getElem hi)).1
 obtain⟨L,hL⟩:∃ L:Nat→Ln,L=fun i=>ls[i]?.getD ⟨3,0,0,0,0,0,⟨#[]⟩⟩:=⟨_,rfl⟩
 have hLi:∀ i l,ls[i]? = some l→L i=l:=fun i l h=>by rw[hL];simp[h]
 have lL:∀ i,Len (L i).f 1:=fun i=>by
  rw[hL]
  cases h:ls[i]? with
  | none=>simp only[h,Option.getD_none];exact mi (m:=1) (n:=1) (by decide) (by decide) 1 (by omega) (by omega)
  | some l=>simp only[h,Option.getD_some];exact lf l (List.mem_of_getElem? h)
 have tl:=zpt ls (fun l hl=>zru l (hln l hl) (lf l hl)) ls.length
 refine zcr (ls.map txW++[[]]) L (fun i=>decide ((L i).f.num<0)) (fun i=>((L i).f.num.natAbs:Int)) (fun i=>((L i).f.den:Int)-1) ?_ ?_ (by simp;omega) (by simp) _ (qov ls) (by show (txL ls ls.length).toArray.size≤_;simp;omega) mx w hm (fun i W=>?_) ?_ ls (zwh ls _ L rfl hLi (fun l hl h=>by have:=(zps l (hln l hl) (lf l hl)).2.2;rw[h] at this;simp at this)).symm ⟨h40,htr⟩ lf (fun l hl=>by have:=(hln l hl).2.1.2.2;omega)
 ·intro ws hws x hx
  rcases List.mem_append.1 hws with h | h
  ·obtain⟨l,hl,rfl⟩:=List.mem_map.1 h
   exact ((zps l (hln l hl) (lf l hl)).1 x hx).1
  ·simp at h
   subst h
   simp at hx
 ·intro ws hws
  rcases List.mem_append.1 hws with h | h
  ·obtain⟨l,hl,rfl⟩:=List.mem_map.1 h
   have:=(zps l (hln l hl) (lf l hl)).2.1
   omega
  ·simp at h
   subst h
   simp
 ·have h:=(lL i).lt
  rw[Nat.pow_one] at h
  exact .inl ⟨h.1,h.2,rfl⟩
 ·intro i hi hne W q c hb hw
  have hi2:i<ls.length:=by
   rcases Nat.lt_or_ge i ls.length with h | h
   ·exact h
   ·exact absurd (by rw[List.getElem?_append_right (by simp;omega)];simp at hi;rw[show i=ls.length by omega];simp) hne
  have e:(ls.map txW++[[]])[i]?.getD []=txW ls[i]:=by
   rw[List.getElem?_append_left (by simp;omega),List.getElem?_map,List.getElem?_eq_getElem hi2]
   rfl
  have eL:L i=ls[i]:=hLi i _ (List.getElem?_eq_getElem hi2)
  rw[e] at hw ⊢
  rw[eL]
  exact zvd ls[i] (hln _ (List.getElem_mem hi2)) (lf _ (List.getElem_mem hi2)) (hpr _ (List.getElem_mem hi2)) q c mx W (TabIs.but htab hb) hw (hF.but hb) (hb.zb hm (by simp))
theorem zvx (ps:List PL) (hf:∀ p ∈ ps,Fits (p.qu,p.qv)):∀ l ∈ ps.map zgz,Len l.f 1:=fun l hl=>by
 obtain⟨p,hp,rfl⟩:=List.mem_map.1 hl
 obtain⟨_,_,_,h,-⟩:=zou (p.qu,p.qv) (hf p hp)
 exact h
theorem ztf {w:World} {q:Option Addr} {n c:Nat} {ls:List Ln} (h:bn w (.slice q n c) ls) (i:Nat) (l:Ln) (hl:ls[i]? = some l):∃ b off,q=some ⟨b,off,none⟩∧zuj w b (off+i*10) l:=by
 obtain⟨a,cap,e,-,h⟩:=h
 simp only[Value.slice.injEq] at e
 obtain⟨b,off,e1,h1⟩:=h i l hl
 exact⟨b,off,e.1.trans e1,h1⟩
theorem zkg (q:Option Addr) (n c:Nat) (ps:List PL) (mx:Int) (w:World) (hv:znh w (.slice q n c) ps) (hn:n≤45) (hf:∀ p ∈ ps,Fits (p.qu,p.qv)) (hbig:∀ p ∈ ps,p.to.size<9223372036854775808)
  (htab:Lib.TabIs prog w "internal/strconv.uint64pow10" .u64 Lib.pow10Tab) (hF:xw w) (hm:w.cell? ⟨2,0,none⟩=some (.int .i64 mx)) :
  Calls prog 3 #[.slice q n c] w fun e w'=>e=.returned (.bool true)∧But [] w w':=by
 have hnl:n=ps.length:=by
  obtain⟨a,cap,e,-⟩:=hv
  simp only[Value.slice.injEq] at e
  exact e.2.1
 obtain⟨ls,hls⟩:∃ ls,ls=ps.map zgz:=⟨_,rfl⟩
 have hll:n=ls.length:=by rw[hls,List.length_map];exact hnl
 have lf:∀ l ∈ ls,Len l.f 1:=by rw[hls];exact zvx ps hf
 have hbg:∀ l ∈ ls,l.to.size<9223372036854775808:=fun l hl=>by
  rw[hls] at hl
  obtain⟨p,hp,rfl⟩:=List.mem_map.1 hl
  exact hbig p hp
 have PT:=hide (zix q n c ps w hv hn hf)
 rw[← hls] at PT
 have TX:Hid (∀ W a c',But [] w W→y7 w.heap.size W (.slice a n c') ls→Calls prog 5 #[.slice a n c'] W fun e w'=>qgs ls n W e w'):=fun W a c' hb hl =>
  zkf a n c' ls mx W hl.lines lf hbg (fun ⟨_,htr⟩ l hl=>by
   obtain⟨i,hi,rfl⟩:=List.getElem_of_mem hl
   exact zru _ (htr i _ (by omega) (List.getElem?_eq_getElem hi)).1 (lf _ hl)) (TabIs.but htab hb) (hF.but hb) (hb.zb hm (by simp))
 have PB:Hid (zwv ls n→∀ W,But [] w W→Calls prog 7 #[.string ⟨(txL ls n).toArray⟩] W fun e w'=>∃ v,e=.returned (.tuple #[v,.nilIface])∧y7 W.heap.size w' v ls∧But [] W w'):=fun hok W hb =>
  znt ls n hll hok lf mx W (TabIs.but htab hb) (hF.but hb) (hb.zb hm (by simp))
 have LKS:Hid (∀ W va vb l,But [] w W→l ∈ ls→zi W va l.f→zi W vb l.f→Calls prog 8 #[va,vb] W fun e w'=>e=.returned (.bool true)∧But [] W w'):=fun W va vb l hb hl h1 h2 =>
  qfi va vb l.f W h1 h2 ⟨Nat.le_trans (lf l hl).1 (by omega),Nat.le_trans (lf l hl).2 (by omega)⟩ (TabIs.but htab hb)
 have SHD:=hide (fun W (hb:But [] w W)=>zuq mx W (TabIs.but htab hb) (hF.but hb) (hb.zb hm (by simp)))
 have HLL:=hide hll
 clear hv hf hbig hbg lf htab hF hm hnl hls hll
 go_enter func3,ntmps3
 go_wp2_with fail
 refine (za PT).mono ?_
 rintro e w1 ⟨v,rfl,hl,hb1⟩
 obtain⟨a,c',rfl⟩:=hl.form
 rw[← za HLL] at hl ⊢
 have TX1:=hide (za TX w1 a c' hb1 hl)
 have XL:=hide hl.lines
 have B1:=hide hb1
 clear hl hb1 PT TX
 go_wp2_with fail
 refine (za TX1).mono ?_
 rintro e w2 ⟨hb2,⟨hok,rfl⟩|⟨hno,ce,rfl⟩⟩
 ·obtain⟨S,hS⟩:∃ S:ByteArray,S=⟨(txL ls n).toArray⟩:=⟨_,rfl⟩
  have PB1:=hide (za PB hok)
  rw[← hS] at PB1 ⊢
  have B2:=hide ((za B1).trans' hb2)
  have X2:=hide ((za XL).but hb2)
  clear hS hok hb2 B1 XL TX1 PB
  dsimp only
  go_wp2_with fail
  refine (za SHD _ (za B2)).mono ?_
  rintro e w3 ⟨rfl,hb3⟩
  have B3:=hide ((za B2).trans' hb3)
  have X3:=hide ((za X2).but hb3)
  clear hb3 B2 X2
  dsimp only
  go_wp2_with fail
  refine (za PB1 _ (za B3)).mono ?_
  rintro e w4 ⟨yv,rfl,hy,hb4⟩
  obtain⟨ya,yc,rfl⟩:=hy.form
  rw[← za HLL] at hy ⊢
  have B4:=hide ((za B3).trans' hb4)
  have X4:=hide ((za X3).but hb4)
  have Y4:=hide hy.lines
  clear hb4 B3 X3 hy PB1 SHD
  dsimp only
  go_wp2
  go_loopw [7] (fun iv wr=>∃ k:Nat,k≤n∧iv=.int .i64 (k:Int)∧Hid (But [] w4 wr)) (fun iv _=>n-(intOf iv).toNat)
  case atStart=>exact⟨0,Nat.zero_le _,rfl,But.refl _ _⟩
  case round =>
   obtain⟨k,hk,rfl,HI⟩:=hrel
   rename World=>wk
   by_cases hkl:k<n
   ·obtain⟨l,hl⟩:∃ l,ls[k]? = some l:=⟨_,List.getElem?_eq_getElem (by have:=za HLL;omega)⟩
    obtain⟨xb,xo,rfl,s2,x2,y2,p2,⟨d0,d1,d2,d3,d4,d5,d6,d7,d8,d9⟩,hfx⟩:=ztf ((za X4).but (za HI)) k l hl
    obtain⟨yb,yo,rfl,s1,x1,y1,p1,⟨f0,f1,f2,f3,f4,f5,f6,f7,f8,f9⟩,hfy⟩:=ztf ((za Y4).but (za HI)) k l hl
    have LK1:=hide (fun W (hb:But [] wk W)=>za LKS W _ _ l ((za B4).trans' ((za HI).trans' hb)) (List.mem_of_getElem? hl) (hfy.but hb) (hfx.but hb))
    have DD:=hide (And.intro d0 <| And.intro d1 <| And.intro d2 <| And.intro d3 <| And.intro d4 <| And.intro d5 <| And.intro d6 <| And.intro d7 <| And.intro d8 d9)
    have FF:=hide (And.intro f0 <| And.intro f1 <| And.intro f2 <| And.intro f3 <| And.intro f4 <| And.intro f5 <| And.intro f6 <| And.intro f7 <| And.intro f8 f9)
    clear d0 d1 d2 d3 d4 d5 d6 d7 d8 d9 f0 f1 f2 f3 f4 f5 f6 f7 f8 f9 hfx hfy hl
    go_wp2
    obtain⟨d0,d1,d2,d3,d4,d5,d6,d7,d8,d9⟩:=za DD
    obtain⟨f0,f1,f2,f3,f4,f5,f6,f7,f8,f9⟩:=za FF
    refine zog 13 _ _ wk yb yo yc xb xo c' n k l.kd l.fr l.li l.ti l.pr l.to s1 x1 y1 p1 s2 x2 y2 p2 (by simp) (by simp[Act.eval]) (by simp[Act.eval]) (by simp[Act.eval]) hkl (by omega) f0 f1 f2 f3 f4 f5 f6 f7 f8 f9 d0 d1 d2 d3 d4 d5 d6 d7 d8 d9 (za LK1) ?_
    intro V w5 hb5
    simp only[List.take_succ_cons,List.take_zero,List.drop_succ_cons,List.drop_zero,List.cons_append,List.nil_append]
    have NX:=hide ((za HI).trans' hb5)
    clear hb5 d0 d1 d2 d3 d4 d5 d6 d7 d8 d9 f0 f1 f2 f3 f4 f5 f6 f7 f8 f9
    go_wp2
    exact⟨⟨k+1,by omega,by go_num,za NX⟩,by simp[intOf];omega⟩
   ·obtain rfl:k=n:=by omega
    go_wp2
    go_ret
    exact⟨rfl,(za B4).trans' (za HI)⟩
 ·have B2:=hide ((za B1).trans' hb2)
  clear hno hb2 B1 TX1 PB XL LKS
  dsimp only
  go_wp2_with fail
  refine (za SHD _ (za B2)).mono ?_
  rintro e w3 ⟨rfl,hb3⟩
  have B3:=hide ((za B2).trans' hb3)
  clear hb3 B2
  dsimp only
  go_wp2_with fail
  refine (za SHD _ (za B3)).mono ?_
  rintro e w4 ⟨rfl,hb4⟩
  have B4:=hide ((za B3).trans' hb4)
  clear hb4 B3
  dsimp only
  go_wp2
  go_ret
  exact⟨rfl,za B4⟩
theorem zit (q:Option Addr) (n c:Nat) (w:World) (hn:¬ n≤45) :
  Calls prog 3 #[.slice q n c] w fun e w'=>e=.returned (.bool true)∧But [] w w':=by
 have h3:(45:Int)<(n:Int):=by omega
 clear hn
 go_enter func3,ntmps3
 go_wp2
 exact bodyPost_ret (v:=.bool true) (by simp[results,results3,go_sem]) rfl ⟨rfl,But.refl _ _⟩
theorem zkh (v:Value) (ps:List PL) (mx:Int) (w:World) (hv:znh w v ps) (hf:∀ p ∈ ps,Fits (p.qu,p.qv)) (hbig:∀ p ∈ ps,p.to.size<9223372036854775808)
  (htab:Lib.TabIs prog w "internal/strconv.uint64pow10" .u64 Lib.pow10Tab) (hF:xw w) (hm:w.cell? ⟨2,0,none⟩=some (.int .i64 mx)) :
  Calls prog 3 #[v] w fun e w'=>e=.returned (.bool true)∧But [] w w':=by
 obtain⟨q,c,rfl⟩:∃ q c,v=.slice q ps.length c:=by obtain⟨a,cap,e,-⟩:=id hv;exact⟨a,cap,e⟩
 by_cases h1:ps.length≤45
 ·exact zkg q _ c ps mx w hv h1 hf hbig htab hF hm
 ·exact zit q _ c w h1
end Go.Proofs.YtcgecpoedojhjaaGreatDoor
