/- A treaty's text, as the Go text of packa -/
import Derived.Test.YtcgecpoedojhjaaGreatDoorKPAU
import Derived.Test.YtcgecpoedojhjaaGreatDoorKPAW
import Derived.Test.YtcgecpoedojhjaaGreatDoorKPAZe
namespace Go.Proofs.YtcgecpoedojhjaaGreatDoor
open Go.Proofs.Tryz
open Go.RowKit Go.Shelf
set_option maxHeartbeats 16000000
set_option maxRecDepth 100000
set_option linter.unusedVariables false
attribute [local go_sem] Oper.semAt_some
theorem zqh {A B:World} {base:Nat} {e:TypeId} {size:Nat} {v:Value} {n:Nat} {xs:List Value} (h:A.ownsRow base e size v n xs) (hb:∀ (k:Nat) (o:Obj),A.heap[k]? = some o→o.isCells=true→B.heap[k]? = some o):B.ownsRow base e size v n xs:=by
 refine⟨h.1,?_⟩
 rcases h.2 with e|⟨g,cap,cur,e,h1,h2,h3⟩
 ·exact .inl e
 ·exact .inr ⟨g,cap,cur,e,h1,hb g _ h2 rfl,h3⟩
theorem zli {w w':World} {base:Nat} {e:TypeId} {size:Nat} {v:Value} {n:Nat} {xs:List Value} {l:List Nat} (h:w.ownsRow base e size v n xs) (hb:But l w w') (hn:∀ g ∈ l,g<base):w'.ownsRow base e size v n xs:=by
 refine⟨h.1,?_⟩
 rcases h.2 with e|⟨g,cap,cur,e,h1,h2,h3⟩
 ·exact .inl e
 ·exact .inr ⟨g,cap,cur,e,h1,(hb.block g (Array.getElem?_eq_some_iff.1 h2).1 (fun hm=>by have:=hn g hm;omega)).trans h2,h3⟩
theorem y7.calm {A B:World} {base:Nat} {v:Value} {ls:List Ln} (h:y7 base A v ls) (hb:∀ (k:Nat) (o:Obj),A.heap[k]? = some o→o.isCells=true→B.heap[k]? = some o):y7 base B v ls:=by
 obtain⟨us,ho,h1,h2⟩:=h
 exact⟨us,zqh ho hb,h1,h2⟩
theorem y7.beside {w w':World} {base:Nat} {v:Value} {ls:List Ln} {l:List Nat} (h:y7 base w v ls) (hb:But l w w') (hn:∀ g ∈ l,g<base):y7 base w' v ls:=by
 obtain⟨us,ho,h1,h2⟩:=h
 exact⟨us,zli ho hb hn,h1,h2⟩
theorem y7.mono {w:World} {base b2:Nat} {v:Value} {ls:List Ln} (h:y7 base w v ls) (hb:b2≤base):y7 b2 w v ls:=by
 obtain⟨us,ho,h1,h2⟩:=h
 refine⟨us,⟨ho.1,?_⟩,h1,h2⟩
 rcases ho.2 with e|⟨g,cap,cur,e,k1,k2⟩
 ·exact .inl e
 ·exact .inr ⟨g,cap,cur,e,Nat.le_trans hb k1,k2⟩
theorem y7.qum {B:Nat} {w:World} {v:Value} {ls:List Ln} (h:y7 B w v ls) (hB:B≤w.heap.size) (hk:ls.length<100000) (l:Ln) (s:Bool) (x y:Int) (hf:∀ W,zi W (.agg #[.bool s,.int .u64 x,.int .u64 y,.pointer none]) l.f) (g:Nat) (hc:∀ r u,(lcs l s x y)[r]? = some u→w.cell? ⟨g,r,none⟩=some u) :
  ∃ v' w',(Builtin.append_ #[23,23] 23 #[v,.slice (some ⟨g,0,none⟩) 1 1]).run prog w=.ok v' w'∧y7 B w' v' (ls++[l])∧w.grownBy w' v.ownBlock:=by
 obtain⟨us,ho,hl,h2⟩:=h
 obtain⟨i0,hi,hz0,hz1,hz2⟩:=zpb
 obtain⟨v',w',hr,ho',hg,-⟩:=run_append_own (P:=prog) w B 23 23 37 i0 _ 10 88 underlying23 hi hz0 hz1 hz2 rfl (by decide) v ls.length us ho ⟨g,0,none⟩ 1 1 (lcs l s x y) rfl (fun j u hj=>by
   have:=hc j u hj
   have e:(Addr.add ⟨g,0,none⟩ j)=⟨g,j,none⟩:=by simp[Addr.add];omega
   rw[e]
   exact this) (fun u hu=>by
   simp only[lcs,List.mem_cons,List.not_mem_nil,or_false] at hu
   rcases hu with rfl|rfl|rfl|rfl|rfl|rfl|rfl|rfl|rfl|rfl <;> rfl) (by unfold maxLen;omega) (by omega) hB
 refine⟨v',w',hr,⟨us++lcs l s x y,by rw[List.length_append];exact ho',by rw[List.length_append,List.length_append,hl];simp[lcs];omega,fun i l' hi=>?_⟩,hg⟩
 rcases Nat.lt_or_ge i ls.length with hlt | hge
 ·rw[List.getElem?_append_left hlt] at hi
  obtain⟨s',x',y',k1,k2⟩:=h2 i l' hi
  refine⟨s',x',y',fun r u hu=>?_,k2⟩
  have hr10:r<10:=by have:=(List.getElem?_eq_some_iff.1 hu).1;simpa [lcs] using this
  rw[List.getElem?_append_left (by omega)]
  exact k1 r u hu
 ·have hi':=(List.getElem?_eq_some_iff.1 hi).1
  rw[List.length_append] at hi'
  obtain rfl:i=ls.length:=by simp at hi';omega
  rw[List.getElem?_append_right (by omega),Nat.sub_self] at hi
  obtain rfl:l=l':=by simpa using hi
  refine⟨s,x,y,fun r u hu=>?_,hf⟩
  rw[List.getElem?_append_right (by omega),show ls.length*10+r-us.length=r by omega]
  exact hu
theorem y7.block {w:World} {base:Nat} {v:Value} {ls:List Ln} (h:y7 base w v ls):∀ g ∈ v.ownBlock.toList,base≤g∧∃ cur,w.heap[g]? = some (.cells cur 37 (0,0)):=fun g hg=>by
 obtain⟨us,ho,-⟩:=h
 rcases ho.2 with ⟨rfl,-⟩|⟨g',cap,cur,rfl,q1,q2,-⟩
 ·simp[Value.ownBlock] at hg
 ·simp only[Value.ownBlock,Option.toList_some,List.mem_cons,List.not_mem_nil,or_false] at hg
  subst hg
  exact⟨q1,cur,q2⟩
def mh (wss:List (List (List UInt8))) (L:Nat→Ln) {n:Nat} (pre:List (Fin n)):List Ln:=(pre.filter (fun i=>!(wss[i.1]?.getD []).isEmpty)).map fun i=>L i.1
theorem zvw (wss:List (List (List UInt8))) (L:Nat→Ln) {n:Nat} (pre:List (Fin n)):(mh wss L pre).length≤pre.length:=by
 unfold mh
 rw[List.length_map]
 exact List.length_filter_le _ _
def TrI (w W0:World) (B2 B3 B4:Nat) (ys:List Ln) (W:World):Prop:=(∃ v,xq W B4 23 v∧y7 W0.heap.size W v ys)∧xq W B2 23 (.slice none 0 0)∧xq W B3 26 .nilIface∧W0.heap.size≤W.heap.size∧But [] w W
def qud (t:ByteArray) (B2 B3 B4 gB:Nat) (ps:Int) (line:ByteArray):Act:={ tmps:=(Value.string t::undef::.pointer (some ⟨B2,0,none⟩)::.pointer (some ⟨B3,0,none⟩)::.pointer (some ⟨B4,0,none⟩)::.int .i64 ps::.string line::undef::undef::undef::undef::.string t::.int .i64 (t.size:Int)::.bool false::undef::.string t::.func (.func 32) #[] #[.pointer (some ⟨gB,0,none⟩)]::.int .i64 ps::.string line::undef::undef::undef::undef::undef::undef::undef::undef::undef::undef::undef::undef::undef::undef::undef::undef::undef::undef::undef::undef::undef::undef::undef::undef::undef::undef::undef::undef::[]).toArray,defers:=[] }
theorem zcr (wss:List (List (List UInt8))) (L:Nat→Ln) (S:Nat→Bool) (X Y:Nat→Int) (hx:∀ ws ∈ wss,∀ x ∈ ws,x≠[]∧(32:UInt8) ∉ x∧(10:UInt8) ∉ x) (hxl:∀ ws ∈ wss,ws.length≤1000) (hxs:wss.length≤1000) (h1:0<wss.length) (t:ByteArray) (ht:t.data.toList=jn 10 (wss.map (jn 32))) (hts:t.size≤50000) (mx:Int) (w:World)
  (hm:w.cell? ⟨2,0,none⟩=some (.int .i64 mx)) (hSX:∀ i W,zi W (.agg #[.bool (S i),.int .u64 (X i),.int .u64 (Y i),.pointer none]) (L i).f)
  (hRD:∀ i,i<wss.length→wss[i]?.getD []≠[]→∀ W q c,But [] w W→lv W (.slice q (wss[i]?.getD []).length c) (wss[i]?.getD [])→Calls prog 18 #[.slice q (wss[i]?.getD []).length c] W fun e w'=>e=.returned (.tuple #[.agg #[.int .i64 (L i).kd,.bool (S i),.int .u64 (X i),.int .u64 (Y i),.pointer none,.int .i64 (L i).fr,.int .i64 (L i).li,.int .i64 (L i).ti,.int .i64 (L i).pr,.string (L i).to],.nilIface])∧But [] W w')
  (rs:List Ln) (hrs:rs=mh wss L (List.finRange wss.length)) (hok:rs.length≤40∧zfo rs rs.length) (hlf:∀ l ∈ rs,Len l.f 1) (hbig:∀ l ∈ rs,l.to.size<9223372036854775808) :
  Calls prog 7 #[.string t] w fun e w'=>∃ v,e=.returned (.tuple #[v,.nilIface])∧y7 w.heap.size w' v rs∧But [] w w':=by
 obtain⟨ls,hls⟩:∃ ls,ls=wss.map (jn 32):=⟨_,rfl⟩
 rw[← hls] at ht
 have hll:ls.length=wss.length:=by rw[hls];simp
 have hl:∀ y ∈ ls,(10:UInt8) ∉ y:=fun y hy=>by
  rw[hls] at hy
  obtain⟨r,hr,rfl⟩:=List.mem_map.1 hy
  exact qfq 32 10 (by decide) _ (fun z hz=>(hx r hr z hz).2.2)
 have h1l:0<ls.length:=by omega
 have htl:t.size=(jn 10 ls).length:=by rw[← ht];simp
 have CT:Hid (∀ (i:Nat) (hi:i<ls.length) W,But [] w W→Calls prog 17 #[.string ⟨(ls[i]).toArray⟩] W fun e w'=>∃ v,e=.returned v∧uw w' W.heap.size v (wss[i]?.getD [])∧But [] W w'):=fun i hi W hW=>by
  have hi':i<wss.length:=by omega
  have e:wss[i]?.getD []=wss[i]:=by rw[List.getElem?_eq_getElem hi'];rfl
  rw[e]
  have hlen:=(zmh 10 ls i hi).2
  have el:ls[i]=jn 32 wss[i]:=by simp[hls]
  have hm':=List.getElem_mem hi'
  refine zbl wss[i] (fun x hx'=>⟨(hx _ hm' x hx').1,(hx _ hm' x hx').2.1⟩) (by rw[← el];omega) (by have:=hxl _ hm';omega) _ (by rw[el]) mx W (hW.zb hm (by simp))
 have HRD:=hide hRD
 have HSX:=hide hSX
 have HLFB:=hide (And.intro hlf hbig)
 have HLL:=hide hll
 have hll1:ls.length≤1000:=by omega
 have gm:=lt_of_cell hm
 have HRS:=hide hrs
 have HOK:=hide hok
 clear hls hll htl hrs hok hRD hSX hlf hbig
 have hnot:¬ (50000:Int)<(t.size:Int):=by omega
 refine (callsIn_wide (n:=4)).1 ?_
 refine callsIn_of_wp_marks func7 rfl trivial ?_ rfl
 simp only[ntmps7,List.size_toArray,List.length_cons,List.length_nil,Nat.reduceAdd,Nat.reduceSub,Array.replicate_succ,Array.replicate_zero,List.push_toArray,List.append_toArray,List.nil_append,List.cons_append]
 gi_wp2_with (refine⟨trivial,?_⟩;gi_at_call 16;refine (qfg _ _ _).mono ?_;rintro e w' ⟨rfl,rfl⟩)
 obtain⟨X1,hX1⟩:∃ X,X=w.alloc (.cells #[.slice none 0 0] 23):=⟨_,rfl⟩
 obtain⟨X2,hX2⟩:∃ X,X=X1.alloc (.cells #[.nilIface] 26):=⟨_,rfl⟩
 obtain⟨X3,hX3⟩:∃ X,X=X2.alloc (.cells #[.slice none 0 0] 23):=⟨_,rfl⟩
 obtain⟨W0,hW0⟩:∃ X,X=X3.alloc (.cells #[.string t] 9):=⟨_,rfl⟩
 have s1:X1.heap.size=w.heap.size+1:=by rw[hX1];simp
 have s2:X2.heap.size=w.heap.size+2:=by rw[hX2];simp[s1]
 have s3:X3.heap.size=w.heap.size+3:=by rw[hX3];simp[s2]
 have s4:W0.heap.size=w.heap.size+4:=by rw[hW0];simp[s3]
 have b1:But [] w X1:=by rw[hX1];exact (But.refl _ _).alloc _
 have b2:But [] X1 X2:=by rw[hX2];exact (But.refl _ _).alloc _
 have b3:But [] X2 X3:=by rw[hX3];exact (But.refl _ _).alloc _
 have b4:But [] X3 W0:=by rw[hW0];exact (But.refl _ _).alloc _
 have k2:xq W0 w.heap.size 23 (.slice none 0 0):=(((by rw[hX1];exact xq.new w _ _:xq X1 w.heap.size 23 (.slice none 0 0)).but b2).but b3).but b4
 have k3:xq W0 X1.heap.size 26 .nilIface:=((by rw[hX2];exact xq.new X1 _ _:xq X2 X1.heap.size 26 .nilIface).but b3).but b4
 have k4:xq W0 X2.heap.size 23 (.slice none 0 0):=(by rw[hX3];exact xq.new X2 _ _:xq X3 X2.heap.size 23 (.slice none 0 0)).but b4
 have kB:xq W0 X3.heap.size 9 (.string t):=by rw[hW0];exact xq.new X3 _ _
 have hBW:But [] w W0:=((b1.trans' b2).trans' b3).trans' b4
 rw[← hX1,← hX2,← hX3,← hW0]
 obtain⟨gB,hgB⟩:∃ g,g=w.heap.size+1+1+1:=⟨_,rfl⟩
 obtain⟨B4,hB4⟩:∃ g,g=w.heap.size+1+1:=⟨_,rfl⟩
 obtain⟨B3,hB3⟩:∃ g,g=w.heap.size+1:=⟨_,rfl⟩
 obtain⟨B2,hB2⟩:∃ g,g=w.heap.size:=⟨_,rfl⟩
 rw[← hB2] at k2
 rw[show X1.heap.size=B3 from by omega] at k3
 rw[show X2.heap.size=B4 from by omega] at k4
 rw[show X3.heap.size=gB from by omega] at kB
 rw[← hgB,← hB4,← hB3,← hB2]
 have o2:w.heap.size≤B2:=by omega
 have o3:B2<B3:=by omega
 have o4:B3<B4:=by omega
 have oB:B4<gB:=by omega
 have oW:gB<W0.heap.size:=by omega
 have hm0:=hBW.zb hm (by simp)
 have gm0 : 2 < B2:=by show _<_;rw[hB2];exact gm
 clear s1 s2 s3 s4 b1 b2 b3 b4 hX1 hX2 hX3 hW0 hgB hB4 hB3 hB2
 have cB:=kB.cell
 refine wpIn_rangeFunc_ownH rfl (by omega) (gf := 32) (lb:=#[.pointer (some ⟨gB,0,none⟩)]) rfl trivial (enters_of func32 (by kernel_rfl) rfl)
  (zte _ (by omega) gB W0.heap.size [B4] ls t ht h1l hl hts mx W0 (Nat.le_refl _) cB (by omega) (by simp;omega) hm0 (by omega) (by simp;omega))
  (fun h k=>yt.trans h k) (fun W l o o' hl _ _ _=>yt.put W l o' hl) (Below.refl _ _) (fun _=>rfl)
  (fun pre W=>TrI w W0 B2 B3 B4 (mh wss L pre) W)
  (fun _ _ _=>False)
  (fun pre A B row ⟨⟨v,i1,i2⟩,i3,i4,i5,i6⟩ hg hr=>by
   have hc:=qgm hg (fun r e=>(hr r e).2)
   exact⟨⟨v,i1.calm hc,i2.calm hc⟩,i3.calm hc,i4.calm hc,Nat.le_trans i5 hg.size,i6.grown hg (fun r e=>by have:=(hr r e).1;omega)⟩)
  (fun _ _ _ _ _ h _ _=>h)
  ⟨⟨_,k4,y7.nil _ _⟩,k2,k3,Nat.le_refl _,hBW⟩
  (fun x a' _=>a'=qud t B2 B3 B4 gB ((zgt 10 ls x.1:Nat):Int) ⟨(ls[x.1]).toArray⟩)
  (fun x a' _ A B row e hg hr=>e) ?assign ?body ?done ?stop
 case assign =>
  rintro l pre x W K hi hK
  gi_wp2
  exact hK _ _ ((KeepsOthers.refl _).from _) (yt.refl _ _ _) hi rfl
 case body =>
  rintro l pre ⟨i,hi⟩ a' W hl' ⟨rec,hrec⟩ hI rfl hlt
  obtain⟨⟨v,i1,i2⟩,i3,i4,i5,i6⟩:=id hI
  obtain⟨ps,hps⟩:∃ ps:Int,ps=((zgt 10 ls i:Nat):Int):=⟨_,rfl⟩
  have CTi:=hide (za CT i hi W i6)
  have hi2:i<wss.length:=by have:=za HLL;omega
  obtain⟨r,hr⟩:∃ r,r=wss[i]?.getD []:=⟨_,rfl⟩
  have RDi0:=za HRD i hi2
  have FQ0:=za HSX i
  have hsn:Hid (mh wss L (pre++[(⟨i,hi⟩:Fin ls.length)])=mh wss L pre++(if r.isEmpty then [] else [L i])):=by
   show _=_
   unfold mh
   rw[List.filter_append,List.map_append]
   congr 1
   rw[hr]
   cases e:(wss[i]?.getD []).isEmpty with
   | true=>simp[e]
   | false=>simp[e]
  obtain⟨ln,hln⟩:∃ ln,ln=L i:=⟨_,rfl⟩
  obtain⟨sI,hsI⟩:∃ sI,sI=S i:=⟨_,rfl⟩
  obtain⟨xI,hxI⟩:∃ xI,xI=X i:=⟨_,rfl⟩
  obtain⟨yI,hyI⟩:∃ yI,yI=Y i:=⟨_,rfl⟩
  rw[← hr,← hln,← hsI,← hxI,← hyI] at RDi0
  rw[← hln,← hsI,← hxI,← hyI] at FQ0
  rw[← hln] at hsn
  rw[← hr] at CTi
  have RDi:=hide RDi0
  have FQ:=hide FQ0
  have hpl:(mh wss L pre).length<100000:=by have:=zvw wss L pre;omega
  obtain⟨line,hline⟩:∃ line:ByteArray,line=⟨(ls[i]).toArray⟩:=⟨_,rfl⟩
  rw[← hline] at CTi ⊢
  rw[← hps]
  unfold qud
  obtain⟨ys,hys⟩:∃ ys,ys=mh wss L pre:=⟨_,rfl⟩
  rw[← hys] at i2 hpl hsn hI
  have HI:=hide hI
  have I1:=hide i1
  have I2:=hide i2
  have HB:=hide i6
  clear hr hline hps hys hI i2 i3 i4 hlt CT hrec ht hl hx cB kB k4 k3 k2 i6 hxl hnot RDi0 FQ0 hln hsI hxI hyI HRD HSX
  gi_wp2_with fail
  refine⟨trivial,?_⟩
  refine (CallsIn.inRound l (callsIn_wide.2 (za CTi))).mono ?_
  rintro e w1 ⟨u,rfl,hu,hb1⟩
  obtain⟨ua,uc,rfl⟩:=hu.form
  have HU:=hide hu.words
  have j1:=(za I1).but hb1
  have jc:=j1.cell
  by_cases hr0:r=[]
  ·have HSN:Hid (mh wss L (pre++[(⟨i,hi⟩:Fin ls.length)])=ys):=by
    show _=_
    rw[za hsn,hr0]
    simp
   have hrl:r.length=0:=by rw[hr0];rfl
   rw[hrl]
   have FIN:Hid (KeepsFrom W0.heap.size W w1∧yt W0.heap.size [B4] W w1∧TrI w W0 B2 B3 B4 ys w1):=by
    obtain⟨⟨v,q1,q2⟩,q3,q4,q5,q6⟩:=za HI
    obtain⟨h1,h2⟩:=zex (l:=[]) hb1 (fun g hg=>by simp at hg) W0.heap.size W0.heap.size B4 i5 (fun g hg=>by simp at hg)
    exact⟨h1,h2,⟨v,q1.but hb1,q2.but hb1⟩,q3.but hb1,q4.but hb1,Nat.le_trans q5 hb1.size,q6.trans' hb1⟩
   clear hu hb1 j1 jc hrl hr0 hsn I2 I1 HU
   gi_wp2
   obtain⟨f1,f2,f3⟩:=za FIN
   show KeepsFrom _ _ _∧yt _ _ _ _∧TrI w W0 B2 B3 B4 _ _
   rw[za HSN]
   exact⟨f1,f2,f3⟩
  ·have HSN:Hid (mh wss L (pre++[(⟨i,hi⟩:Fin ls.length)])=ys++[ln]):=by
    show _=_
    rw[za hsn]
    cases r with
    | nil=>exact absurd rfl hr0
    | cons x l=>rfl
   have RDc:=hide (za RDi hr0 w1 ua uc ((za HB).trans' hb1) (za HU))
   have hrl:0<r.length:=List.length_pos_iff.2 hr0
   obtain⟨rl,hrlE⟩:∃ rl,rl=r.length:=⟨_,rfl⟩
   rw[← hrlE] at hrl RDc ⊢
   have hrl2:(0:Int)<(rl:Int):=by omega
   have hrl3:¬ (rl:Int)=0:=by omega
   have B1:=hide hb1
   clear hu hb1 j1 jc hrlE hr0 hsn HU RDi
   gi_wp2_with fail
   refine⟨trivial,?_⟩
   refine (CallsIn.inRound l (callsIn_wide.2 (za RDc))).mono ?_
   rintro e w2 ⟨rfl,hb2⟩
   have b12:But [] W w2:=(za B1).trans' hb2
   obtain⟨V1,hV1⟩:∃ V1,V1=w2.alloc (.cells #[.int .i64 ln.kd,.bool sI,.int .u64 xI,.int .u64 yI,.pointer none,.int .i64 ln.fr,.int .i64 ln.li,.int .i64 ln.ti,.int .i64 ln.pr,.string ln.to] 37):=⟨_,rfl⟩
   obtain⟨V,hV⟩:∃ V,V=V1.alloc (.cells #[.int .i64 ln.kd,.bool sI,.int .u64 xI,.int .u64 yI,.pointer none,.int .i64 ln.fr,.int .i64 ln.li,.int .i64 ln.ti,.int .i64 ln.pr,.string ln.to] 37):=⟨_,rfl⟩
   have bV1:But [] w2 V1:=by rw[hV1];exact (But.refl _ _).alloc _
   have bV:But [] V1 V:=by rw[hV];exact (But.refl _ _).alloc _
   have b13:But [] W V:=(b12.trans' bV1).trans' bV
   have sV1:V1.heap.size=w2.heap.size+1:=by rw[hV1];simp
   have cV:∀ r u,(lcs ln sI xI yI)[r]? = some u→V.cell? ⟨V1.heap.size,r,none⟩=some u:=fun r u hu=>by rw[hV,World.cell?_alloc_new];simpa [lcs] using hu
   have oV:y7 W0.heap.size V v ys:=(za I2).but b13
   have sV:W0.heap.size≤V.heap.size:=Nat.le_trans i5 b13.size
   obtain⟨v',w',hr,ho,hg⟩:=oV.qum sV hpl ln sI xI yI (za FQ) V1.heap.size cV
   have bG:=zfc hg
   have hown:∀ g ∈ v.ownBlock.toList,W0.heap.size≤g:=fun g hgm=>(oV.block g hgm).1
   have jV:=(za I1).but b13
   have j6:xq w' B4 23 v:=jV.beside bG (fun hm=>by have:=hown _ hm;omega)
   have cl6:=j6.cell
   have fz6:=j6.loose
   have j1:=(za I1).but b12
   have jc:=j1.cell
   have jl:=j1.lt
   have FIN:Hid (KeepsFrom W0.heap.size W (w'.setCell ⟨B4,0,none⟩ v')∧yt W0.heap.size [B4] W (w'.setCell ⟨B4,0,none⟩ v')∧TrI w W0 B2 B3 B4 (ys++[ln]) (w'.setCell ⟨B4,0,none⟩ v')):=by
    have hS:=zba w' B4 v'
    have hBB:But (v.ownBlock.toList++[B4]) W (w'.setCell ⟨B4,0,none⟩ v'):=((But.of_nil b13:But (v.ownBlock.toList++[B4]) W V).trans bG (fun x hx=>.inl (List.mem_append_left _ hx))).trans hS (fun x hx=>.inl (List.mem_append_right _ hx))
    have hcl:∀ g ∈ v.ownBlock.toList++[B4],(g=B4∨W0.heap.size≤g)∧∃ cur T,W.heap[g]? = some (.cells cur T (0,0)):=fun g hgm=>by
     rcases List.mem_append.1 hgm with h | h
     ·obtain⟨q1,cur,q2⟩:=(za I2).block g h
      exact⟨.inr q1,cur,_,q2⟩
     ·simp only[List.mem_cons,List.not_mem_nil,or_false] at h
      subst h
      exact⟨.inl rfl,_,_,za I1⟩
    obtain⟨h1,h2⟩:=zex hBB (fun g hgm=>(hcl g hgm).2) W0.heap.size W0.heap.size B4 i5 (fun g hgm=>(hcl g hgm).1)
    obtain⟨-,i3,i4,-,-⟩:=za HI
    have hno:∀ b,b<W0.heap.size→b ∉ v.ownBlock.toList:=fun b hb hm=>by have:=hown b hm;omega
    refine⟨h1,h2,⟨v',j6.set v',ho.beside hS (fun g hg=>by simp at hg;omega)⟩,((i3.but b13).beside bG (hno _ (by omega))).beside hS (by simp;omega),((i4.but b13).beside bG (hno _ (by omega))).beside hS (by simp;omega),Nat.le_trans i5 hBB.size,(za HB).trans hBB (fun x hx=>.inr ?_)⟩
    rcases (hcl x hx).1 with e | e
    ·omega
    ·omega
   have HR:Hid ((Builtin.append_ #[23,23] 23 #[v,.slice (some ⟨w2.heap.size+1,0,none⟩) 1 1]).run prog ((w2.alloc (.cells #[.int .i64 ln.kd,.bool sI,.int .u64 xI,.int .u64 yI,.pointer none,.int .i64 ln.fr,.int .i64 ln.li,.int .i64 ln.ti,.int .i64 ln.pr,.string ln.to] 37)).alloc (.cells #[.int .i64 ln.kd,.bool sI,.int .u64 xI,.int .u64 yI,.pointer none,.int .i64 ln.fr,.int .i64 ln.li,.int .i64 ln.ti,.int .i64 ln.pr,.string ln.to] 37))=.ok v' w'):=by
    show _=_
    rw[← hV1,← hV,← sV1]
    exact hr
   obtain⟨a',c',hv'⟩:=ho.form
   obtain⟨m',hm'⟩:∃ m',m'=(ys++[ln]).length:=⟨_,rfl⟩
   rw[← hm'] at hv'
   subst hv'
   clear hr ho hg bG hown jV j6 hV bV hV1 bV1 cV oV sV j1 hb2 b12 b13 sV1 hm' I2 I1 RDc
   gi_wp2_with (gi_at_builtin;refine zpp rfl _ _ 23 23 rfl _ _ (.slice a' m' c') w' rfl rfl (za HR) ?_)
   obtain⟨f1,f2,f3⟩:=za FIN
   show KeepsFrom _ _ _∧yt _ _ _ _∧TrI w W0 B2 B3 B4 _ _
   rw[za HSN]
   exact⟨f1,f2,f3⟩
 case done =>
  rintro D zs W hD rfl hI hK
  obtain⟨⟨v,i1,i2⟩,i3,i4,i5,i6⟩:=hI
  have hfl:mh wss L (List.finRange ls.length)=rs:=by
   rw[za HRS]
   have e:ls.length=wss.length:=za HLL
   rw[e]
  rw[hfl] at i2
  obtain⟨a',c',hv'⟩:=i2.form
  obtain⟨m',hm'⟩:∃ m',m'=rs.length:=⟨_,rfl⟩
  rw[← hm'] at hv'
  subst hv'
  have TC:=hide (zct a' m' c' rs W i2.lines (za HLFB).1 (za HLFB).2)
  have HTO:Hid (m'≤40∧zfo rs m'):=by show _∧_;rw[hm'];exact za HOK
  have I2:=hide i2
  have HB:=hide i6
  have I1:=hide i1
  have I3:=hide i3
  have I4:=hide i4
  have c6:=i1.cell
  have HK:=hide hK
  clear i1 i2 i3 i4 i6 CT ht hl hx cB kB k4 k3 k2 hK HRD HSX hfl hm'
  gi_wp2_with fail
  refine⟨trivial,?_⟩
  refine (callsIn_wide.2 (za TC)).mono ?_
  rintro e w3 ⟨r,rfl,hr1,-,hb3⟩
  obtain rfl:=hr1 (za HTO)
  clear hr1
  ·have x2:=(za I3).but hb3
   have x3:=(za I4).but hb3
   have x4:=(za I1).but hb3
   have c2:=x2.cell
   have c3:=x3.cell
   have c4:=x4.cell
   have z2:=x2.loose
   have z3:=x3.loose
   have l4:=x4.lt
   have l2:=x2.lt
   have l3:=x3.lt
   have X2:=hide x2
   have X3:=hide x3
   have B3':=hide hb3
   clear x2 x3 x4 hb3 c6
   gi_wp2
   have y4:xq (w3.setCell ⟨B2,0,none⟩ (.slice a' m' c')) B2 23 (.slice a' m' c'):=(za X2).set _
   have hS4:=zba w3 B2 (.slice a' m' c')
   have y5:xq (w3.setCell ⟨B2,0,none⟩ (.slice a' m' c')) B3 26 .nilIface:=(za X3).beside hS4 (by simp;omega)
   have hS5:=zba (w3.setCell ⟨B2,0,none⟩ (.slice a' m' c')) B3 .nilIface
   obtain⟨Z,hZ⟩:∃ Z,Z=(w3.setCell ⟨B2,0,none⟩ (.slice a' m' c')).setCell ⟨B3,0,none⟩ .nilIface:=⟨_,rfl⟩
   rw[← hZ]
   rw[← hZ] at hS5
   have x4:xq Z B2 23 (.slice a' m' c'):=y4.beside hS5 (by simp;omega)
   have x5:xq Z B3 26 .nilIface:=by rw[hZ];exact y5.set _
   have hBZ:But [B2,B3] w3 Z:=(But.trans (l:=[B2,B3]) ((But.refl _ _).trans hS4 (fun x hx=>.inl (by simp at hx;simp[hx]))) hS5 (fun x hx=>.inl (by simp at hx;simp[hx])))
   have oZ:y7 W0.heap.size Z (.slice a' m' c') rs:=(((za I2).but (za B3')).beside hS4 (fun g hg=>by simp at hg;omega)).beside hS5 (fun g hg=>by simp at hg;omega)
   have kD:Z.heap[D]? = some (.deferred (some [])):=(hBZ.block D (Nat.lt_of_lt_of_le (Array.getElem?_eq_some_iff.1 (za HK)).1 (za B3').size) (by simp;omega)).trans (((za B3').block D (Array.getElem?_eq_some_iff.1 (za HK)).1 (by simp)).trans (za HK))
   have bZ:But [] w Z:=((za HB).trans' (za B3')).trans hBZ (fun x hx=>.inr (by simp at hx;omega))
   have bD:But [D] Z (Z.putObj D (.deferred none)):=⟨rfl,rfl,rfl,by simp,fun k _ hk=>World.putObj_heap_other (by simpa using hk)⟩
   have q4:(Z.putObj D (.deferred none)).cell? ⟨B2,0,none⟩=some (.slice a' m' c'):=(x4.beside bD (by simp;omega)).cell
   have q5:(Z.putObj D (.deferred none)).cell? ⟨B3,0,none⟩=some .nilIface:=(x5.beside bD (by simp;omega)).cell
   have oD:y7 W0.heap.size (Z.putObj D (.deferred none)) (.slice a' m' c') rs:=oZ.calm (fun k o hk ho=>by
    refine (World.putObj_heap_other (fun e=>?_)).trans hk
    rw[e,kD] at hk
    obtain rfl:=Option.some.inj hk
    simp[Obj.isCells] at ho)
   have bF:But [] w (Z.putObj D (.deferred none)):=bZ.trans bD (fun x hx=>by simp at hx;subst hx;exact .inr (by omega))
   clear hZ y4 y5 hS4 hS5 x4 x5 hBZ oZ bZ bD
   refine⟨by simp,.inl ⟨_,_,rfl,run_takeDeferred kD,?_⟩⟩
   exact⟨.tuple #[.slice a' m' c',.nilIface],(by simp[results,results7,go_sem,q4,q5]),_,rfl,oD.mono (by omega),bF⟩
 case stop =>
  rintro D c pre W _ _ h
  exact h.elim
def hfQ:Rat:=⟨1,2,by decide,by decide⟩
def shL (i:Nat):Ln:=match i with
 | 0=>⟨1,hfQ,0,0,0,0,⟨#[97]⟩⟩
 | _=>⟨3,0,30,10,0,0,⟨#[98]⟩⟩
def shS (i:Nat):Bool:=false
def shX (i:Nat):Int:=match i with
 | 0=>1
 | _=>0
def shW:List (List (List UInt8)):=[zjy [49,47,50] [97],zjx 30 10 [98],[]]
theorem zxo (W:World):zi W (.agg #[.bool false,.int .u64 1,.int .u64 1,.pointer none]) hfQ:=.inl ⟨by decide,by decide,rfl⟩
theorem zmg:Len hfQ 1:=mi (m:=1) (n:=1) (by decide) (by decide) 1 (by omega) (by omega)
theorem qpa (i:Nat) (W:World):zi W (.agg #[.bool (shS i),.int .u64 (shX i),.int .u64 (shX i),.pointer none]) (shL i).f:=by
 match i with
 | 0=>exact zxo W
 | i+1=>exact sw W
theorem qtd:0≤hfQ∧hfQ≤1:=by
 constructor
 ·exact Rat.num_nonneg.1 (by decide)
 ·rw[Rat.le_iff];decide
theorem ztb (b:UInt8) (h:okB b.toNat):kr ⟨#[b]⟩:=by
 refine⟨fun j hj=>?_,Nat.le_refl 1,by show 1≤20;omega⟩
 obtain rfl:j=0:=by
  have:j<1:=hj
  omega
 exact h
theorem qtc:di ⟨1,hfQ,0,0,0,0,⟨#[97]⟩⟩:=by
 refine⟨⟨by decide,by decide⟩,ztb 97 (by unfold okB;decide),⟨by decide,by decide,by decide,by decide⟩,fun _=>⟨qtd,rfl,rfl,rfl,rfl⟩,fun h=>absurd h (by decide),fun h=>absurd h (by decide),fun h=>absurd h (by decide)⟩
theorem qtb:di ⟨3,0,30,10,0,0,⟨#[98]⟩⟩:=by
 refine⟨⟨by decide,by decide⟩,ztb 98 (by unfold okB;decide),⟨by decide,by decide,by decide,by decide⟩,fun h=>absurd h (by decide),fun h=>absurd h (by decide),fun _=>⟨by decide,rfl⟩,fun h=>absurd h (by decide)⟩
theorem zqa (i:Nat):di (shL i):=by
 match i with
 | 0=>exact qtc
 | i+1=>exact qtb
theorem zyl:mh shW shL (List.finRange 3)=[shL 0,shL 1]:=by rfl
theorem qit:hfQ*(((100:Int)):Rat)=(((50:Int)):Rat):=ofP hfQ 50 100 (by decide) (by decide)
theorem qtf (z:Int):fl (((z:Int)):Rat)=z:=by
 obtain⟨e1,e2⟩:=ax z
 unfold fl
 rw[e1,e2]
 simp
def shC:List (Int × Int):=[(100,100)]
theorem qbn:brI (shL 0) 100 100 0=50:=by
 unfold brI
 rw[if_pos (show (shL 0).kd=1 from rfl)]
 show fl (hfQ*_)=50
 rw[qit,qtf]
theorem qoy:brI (shL 1) 100 50 0=10:=by
 unfold brI
 rw[if_neg (by decide),if_neg (by decide),if_pos (by decide)]
 decide
theorem qha:∀ bs:Nat→Int,bs 0=0→bs 1=0→lfF [shL 0,shL 1] 100 100 bs 0=100∧lfF [shL 0,shL 1] 100 100 bs 1=50∧lfF [shL 0,shL 1] 100 100 bs 2=40:=fun bs h0 h1=>by
 have e0:lfF [shL 0,shL 1] 100 100 bs 0=100:=rfl
 have e1:lfF [shL 0,shL 1] 100 100 bs 1=50:=by
  show lfF [shL 0,shL 1] 100 100 bs 0-brI (lnA [shL 0,shL 1] 0) 100 (lfF [shL 0,shL 1] 100 100 bs 0) (bs 0)=50
  rw[e0,h0,show lnA [shL 0,shL 1] 0=shL 0 from rfl,qbn]
  rfl
 refine⟨e0,e1,?_⟩
 show lfF [shL 0,shL 1] 100 100 bs 1-brI (lnA [shL 0,shL 1] 1) 100 (lfF [shL 0,shL 1] 100 100 bs 1) (bs 1)=40
 rw[e1,h1,show lnA [shL 0,shL 1] 1=shL 1 from rfl,qoy]
 rfl
theorem qbo:ntK [shL 0,shL 1] (ntJ [shL 0,shL 1] shC 2 1) 2=40∧SJ [shL 0,shL 1] shC 0 0=50:=by
 obtain⟨a0,a1,a2⟩:=qha (bsJ [shL 0,shL 1] shC 0) rfl rfl
 have e:ntJ [shL 0,shL 1] shC 2 1=40:=by
  show (0:Int)+lfF [shL 0,shL 1] 100 100 (bsJ [shL 0,shL 1] shC 0) 2=40
  rw[a2]
  rfl
 refine⟨?_,?_⟩
 ·rw[e];rfl
 ·show brI (lnA [shL 0,shL 1] 0) 100 (lfF [shL 0,shL 1] 100 100 (bsJ [shL 0,shL 1] shC 0) 0) 0=50
  rw[a0]
  exact qbn
theorem qji:zfo [shL 0,shL 1] 2:=fun i l hi hl=>by
 have:i=0∨i=1:=by omega
 rcases this with rfl|rfl
 ·obtain rfl:=Option.some.inj (show some (shL 0)=some l from hl)
  exact⟨zqa 0,fun j m hj=>absurd hj (by omega)⟩
 ·obtain rfl:=Option.some.inj (show some (shL 1)=some l from hl)
  refine⟨zqa 1,fun j m hj hm h4=>?_⟩
  obtain rfl:j=0:=by omega
  obtain rfl:=Option.some.inj (show some (shL 0)=some m from hm)
  exact absurd h4 (by decide)
theorem ziv (mx:Int) (w:World) (htab:Lib.TabIs prog w "internal/strconv.uint64pow10" .u64 Lib.pow10Tab) (hF:xw w) (hm:w.cell? ⟨2,0,none⟩=some (.int .i64 mx)) :
  Calls prog 7 #[.string ⟨#[99,101,100,101,32,49,47,50,32,116,111,32,97,10,101,120,99,101,115,115,32,51,48,32,108,105,109,105,116,32,49,48,32,116,111,32,98,10]⟩] w fun e w'=>∃ v,e=.returned (.tuple #[v,.nilIface])∧y7 w.heap.size w' v [shL 0,shL 1]∧But [] w w':=by
 have CP:∀ W,Calls prog 66 #[yg [49,47,50]] W fun e w'=>e=.returned (.tuple #[.agg #[.bool false,.int .u64 1,.int .u64 1,.pointer none],.nilIface])∧But [] W w':=fun W=>by
  refine (zlh ⟨#[49,47,50]⟩ hfQ W (by decide +kernel) (by decide) (by decide)).mono ?_
  rintro e w' ⟨v,rfl,hv,hb⟩
  rcases hv with ⟨-,-,rfl⟩|⟨h,-⟩
  ·exact⟨rfl,hb⟩
  ·exact absurd h (by decide)
 refine zcr shW shL shS shX shX ?_ ?_ (by decide) (by decide) _ (by decide +kernel) (by decide) mx w hm qpa ?_ [shL 0,shL 1] zyl.symm ⟨by decide,qji⟩ ?_ ?_
 ·decide +kernel
 ·decide +kernel
 ·intro i hi hne W q c hb hw
  have:i=0∨i=1∨i=2:=by
   have:shW.length=3:=rfl
   omega
  rcases this with rfl|rfl|rfl
  ·exact zfs hfQ false 1 1 [49,47,50] [97] zxo zmg CP (by decide) (zqa 0) q c mx W hw (hF.but hb) (hb.zb hm (by simp))
  ·exact zhw 30 10 [98] (by decide) (zqa 1) q c mx W (TabIs.but htab hb) hw (hF.but hb) (hb.zb hm (by simp))
  ·exact absurd rfl hne
 ·intro l hl
  simp only[List.mem_cons,List.not_mem_nil,or_false] at hl
  rcases hl with rfl|rfl
  ·exact zmg
  ·exact mi (m:=1) (n:=1) (by decide) (by decide) 1 (by omega) (by omega)
 ·intro l hl
  simp only[List.mem_cons,List.not_mem_nil,or_false] at hl
  rcases hl with rfl|rfl <;> decide
theorem zuq (mx:Int) (w:World) (htab:Lib.TabIs prog w "internal/strconv.uint64pow10" .u64 Lib.pow10Tab) (hF:xw w) (hm:w.cell? ⟨2,0,none⟩=some (.int .i64 mx)) :
  Calls prog 6 #[] w fun e w'=>e=.returned (.bool true)∧But [] w w':=by
 have PA:=hide (ziv mx w htab hF hm)
 clear htab hF hm
 go_enter func6,ntmps6
 go_wp2_with fail
 refine (za PA).mono ?_
 rintro e w1 ⟨v,rfl,hl,hb1⟩
 obtain⟨a,c,rfl⟩:=hl.form
 simp only[List.length_cons,List.length_nil,Nat.zero_add,Nat.reduceAdd] at hl ⊢
 have bA:But [] w1 (w1.alloc (.cells #[.int .i64 100,.int .i64 100] 62)):=(But.refl [] w1).alloc _
 have AP:=hide (qgq a 2 c [shL 0,shL 1] (some ⟨w1.heap.size,0,none⟩) 1 1 shC (w1.alloc (.cells #[.int .i64 100,.int .i64 100] 62)) (hl.lines.but bA) ⟨_,1,rfl,by decide,fun i q hq=>by
   obtain rfl:i=0:=by
    have:=(List.getElem?_eq_some_iff.1 hq).1
    have e:shC.length=1:=rfl
    omega
   obtain rfl:=Option.some.inj (show some ((100:Int),(100:Int))=some q from hq)
   exact⟨w1.heap.size,0,rfl,by simp,by simp⟩⟩ (by omega) (by omega) (fun l hl=>by
   simp only[List.mem_cons,List.not_mem_nil,or_false] at hl
   rcases hl with rfl|rfl
   ·exact zmg
   ·exact mi (m:=1) (n:=1) (by decide) (by decide) 1 (by omega) (by omega)) (fun l hl=>by
   simp only[List.mem_cons,List.not_mem_nil,or_false] at hl
   rcases hl with rfl|rfl <;> decide) qji (fun p hp=>by
   simp only[shC,List.mem_cons,List.not_mem_nil,or_false] at hp
   subst hp
   exact⟨by decide,by decide,by decide,by decide⟩))
 have B1:=hide (hb1.trans' bA)
 clear hl hb1 bA PA
 go_wp2_with fail
 refine (za AP).mono ?_
 rintro e w2 ⟨gC,gS,gP,rfl,hA,hb2⟩
 rw[qbo.1]
 obtain⟨sh,p0,p1,p2⟩:=hA.paid 0 (by omega)
 have p3:=p2 0 (by omega)
 rw[qbo.2] at p3
 rw[Nat.zero_mul] at p0
 have B2:=hide ((za B1).trans' hb2)
 have lC:=lt_of_cell p0
 have lS:=lt_of_cell p3
 clear hA hb2 p1 p2 AP B1
 go_wp2
 exact bodyPost_ret (v:=.bool true) (by simp[results,results6,go_sem]) rfl ⟨rfl,(za B2).alloc _⟩
end Go.Proofs.YtcgecpoedojhjaaGreatDoor
