/- Out of RLe: what needs no more than thes -/
import Derived.Test.YtagmkkiagjmimaaGreatDoorXRLb
namespace Go.Proofs.YtagmkkiagjmimaaGreatDoor
open Go.Proofs.Tryz
open Go.RowKit
set_option maxHeartbeats 16000000
set_option maxRecDepth 100000
theorem zzf:∃ i,prog.info? 42 = some i∧i.zero=some (.slice none 0 0)∧i.size=1∧i.bytes=24:=by(
 have h:(prog.info? 42).map (fun i=>(i.zero,i.size,i.bytes))=some (some (.slice none 0 0),1,24):=by kernel_rfl
 cases e:prog.info? 42 with
 | none=>rw[e] at h;simp at h
 | some i =>
  rw[e] at h
  simp only[Option.map_some,Option.some.injEq,Prod.mk.injEq] at h
  exact⟨i,rfl,h.1,h.2.1,h.2.2⟩)
structure zcp (w:World) (base:Nat) (v:Value) (k:Nat) (fs:Nat→List Rat) (us:List Value):Prop where
 own:w.ownsRow base 42 1 v k us
 len:us.length=k
 val:∀ i,i<k→∃ u vs,us[i]? = some u∧zar w base u (fs i) vs
 nil:k=0→v=.slice none 0 0
theorem zcp.empty (w:World) (base:Nat) (fs:Nat→List Rat):zcp w base (.slice none 0 0) 0 fs []:=⟨World.ownsRow_nil _ _ _ _,rfl,fun i h=>by omega,fun _=>rfl⟩
theorem zcp.but {w w':World} {base:Nat} {v:Value} {k:Nat} {fs:Nat→List Rat} {us:List Value} (h:zcp w base v k fs us) (hb:But [] w w'):zcp w' base v k fs us :=
 ⟨zai h.own hb,h.len,fun i hi=>by
  obtain⟨u,vs,e,h1⟩:=h.val i hi
  exact⟨u,vs,e,h1.but hb⟩,h.nil⟩
theorem zcp.form {w:World} {base:Nat} {v:Value} {k:Nat} {fs:Nat→List Rat} {us:List Value} (h:zcp w base v k fs us):∃ a c,v=.slice a k c:=ownsRow_form h.own
theorem zzo (w w0:World) (v:Value) (k:Nat) (fs:Nat→List Rat) (us:List Value) (base:Nat) (hown:zcp w base v k fs us) (g:Nat) (u:Value) (c:w.cell? ⟨g,0,none⟩=some u) (hp:∃ vs,zar w base u (fs k) vs) (hk:k<1000000) (h0:But [] w0 w) (hb:w0.heap.size≤base) (hw:base≤w.heap.size) :
   ∃ v' w',(Builtin.append_ #[72,72] 72 #[v,.slice (some ⟨g,0,none⟩) 1 1]).run prog w=.ok v' w'∧zcp w' base v' (k+1) fs (us++[u])∧But [] w0 w':=by(
 obtain⟨vs,hp⟩:=hp
 obtain⟨i0,hi,hz0,hz1,hz2⟩:=zzf
 obtain⟨v',w',hr,ho,hg,-⟩:=run_append_own (P:=prog) w base 72 72 42 i0 _ 1 24 underlying72 hi hz0 hz1 hz2 rfl (by decide) v k us hown.own ⟨g,0,none⟩ 1 1 [u] rfl (fun j x hj=>by
   cases j with
   | zero=>simp at hj;subst hj;exact c
   | succ j=>simp at hj) (fun x hx=>by
   simp only[List.mem_cons,List.not_mem_nil,or_false] at hx
   subst hx
   obtain⟨a,cc,rfl⟩:=hp.form
   rfl) (by unfold maxLen;omega) (by omega) hw
 have hB:But v.ownBlock.toList w w':=⟨hg.os,hg.tape,hg.output,hg.size,fun j hj hn=>hg.block j hj (by
  intro e
  rw[← e] at hn
  simp at hn)⟩
 have stay:∀ (b:Nat) (r:Rat),zi w b r→zi w' b r:=by
  by_cases h1:k=0
  ·have:v.ownBlock=none:=by rw[hown.nil h1];rfl
   rw[this] at hB
   exact fun b r h=>h.but hB
  ·rcases hown.own.2 with ⟨-,e⟩|⟨gb,cap,cur,e,-⟩
   ·omega
   ·obtain⟨x,xs,e1,hx⟩:=hown.val 0 (by omega)
    obtain⟨a,cc,rfl⟩:=hx.form
    subst e
    have c0:w.cell? ⟨gb,0,none⟩=some (.slice a (fs 0).length cc):=by
     rw[hown.own.cellAt 0 (by have:=hown.len;omega)]
     exact e1
    exact fun b r h=>h.zru hB c0 (zsd _ _ _)
 have keep:∀ (x:Value) (l:List Rat) (xs:List Value),zar w base x l xs→zar w' base x l xs:=fun x l xs h =>
  ⟨h.own.kept hg (zfu h.own hown.own (by decide)),h.len,fun i f hf=>by
   obtain⟨y,e1,b,e2,h2⟩:=h.val i f hf
   exact⟨y,e1,b,e2,stay b f h2⟩,h.nil⟩
 refine⟨v',w',hr,⟨ho,by simp[hown.len],fun i hi=>?_,fun e=>by omega⟩,l9 h0 hown.own hb hg⟩
 rcases Nat.lt_or_ge i k with hlt | hge
 ·obtain⟨x,xs,e1,h1⟩:=hown.val i hlt
  exact⟨x,xs,by rw[List.getElem?_append_left (by rw[hown.len];exact hlt)];exact e1,keep _ _ _ h1⟩
 ·obtain rfl:i=k:=by omega
  refine⟨u,vs,?_,keep _ _ _ hp⟩
  rw[List.getElem?_append_right (by rw[hown.len];exact Nat.le_refl _),hown.len,Nat.sub_self]
  rfl)
def zcn (w:World) (v:Value) (n:Nat) (fs:Nat→List Rat):Prop:=∃ a cap,v=.slice a n cap∧n≤cap∧∀ i,i<n→∃ b off u,a=some ⟨b,off,none⟩∧w.cell? ⟨b,off+i,none⟩=some u∧zn w u (fs i)
theorem zcn.but {w w':World} {v:Value} {n:Nat} {fs:Nat→List Rat} (h:zcn w v n fs) (hb:But [] w w'):zcn w' v n fs:=by(
 obtain⟨a,cap,e,hc,h⟩:=h
 refine⟨a,cap,e,hc,fun i hi=>?_⟩
 obtain⟨b,off,u,e1,h1,h2⟩:=h i hi
 exact⟨b,off,u,e1,hb.ag h1 (by simp),h2.but hb⟩)
theorem zcp.rows {w:World} {base:Nat} {v:Value} {k:Nat} {fs:Nat→List Rat} {us:List Value} (h:zcp w base v k fs us):zcn w v k fs:=by(
 rcases h.own.2 with ⟨e,h0⟩|⟨g,cap,cur,e,h1,h2,h3,-⟩
 ·exact⟨none,0,by rw[e,h0],by omega,fun i hi=>by omega⟩
 ·(
 refine⟨_,cap,e,h3,fun i hi=>?_⟩
 obtain⟨u,vs,e1,h4⟩:=h.val i hi
 refine⟨g,0,u,rfl,?_,h4.qhd⟩
 have ho:=h.own
 rw[e] at ho
 rw[Nat.zero_add,ho.cellAt i (by have:=h.len;omega)]
 exact e1))
theorem zrc {w:World} {v:Value} {n:Nat} {fs:Nat→List Rat} (h:zcn w v n fs):∃ a cap,v=.slice a n cap∧n≤cap∧∀ W,But [] w W→∀ i,i<n→∃ b off a' c',a=some ⟨b,off,none⟩∧W.cell? ⟨b,off+i,none⟩=some (.slice a' (fs i).length c')∧zn W (.slice a' (fs i).length c') (fs i):=by(
 obtain⟨a,cap,e,hc,-⟩:=id h
 refine⟨a,cap,e,hc,fun W hb i hi=>?_⟩
 obtain⟨a2,cap2,e2,-,h2⟩:=h.but hb
 rw[e] at e2
 simp only[Value.slice.injEq] at e2
 obtain⟨rfl,-,rfl⟩:=e2
 obtain⟨b,off,u,e1,h3,h4⟩:=h2 i hi
 obtain⟨a',c',rfl,-⟩:=h4.open
 exact⟨b,off,a',c',e1,h3,h4⟩)
set_option linter.unusedVariables false
def zcr (w:World) (v:Value) (n:Nat) (fs:Nat→List Rat):Prop:=∃ a cap,v=.slice a n cap∧n≤cap∧∀ i,i<n→∃ b off u,a=some ⟨b,off,none⟩∧w.cell? ⟨b,off+i,none⟩=some u∧av w u (fs i)
theorem zcr.but {w w':World} {v:Value} {n:Nat} {fs:Nat→List Rat} (h:zcr w v n fs) (hb:But [] w w'):zcr w' v n fs:=by(
 obtain⟨a,cap,e,hc,h⟩:=h
 refine⟨a,cap,e,hc,fun i hi=>?_⟩
 obtain⟨b,off,u,e1,h1,h2⟩:=h i hi
 exact⟨b,off,u,e1,hb.ag h1 (by simp),h2.but hb⟩)
theorem zst {w:World} {v:Value} {n:Nat} {fs:Nat→List Rat} (h:zcr w v n fs):∃ a cap,v=.slice a n cap∧n≤cap∧∀ W,But [] w W→∀ i,i<n→∃ b off a' c',a=some ⟨b,off,none⟩∧W.cell? ⟨b,off+i,none⟩=some (.slice a' (fs i).length c')∧av W (.slice a' (fs i).length c') (fs i):=by(
 obtain⟨a,cap,e,hc,-⟩:=id h
 refine⟨a,cap,e,hc,fun W hb i hi=>?_⟩
 obtain⟨a2,cap2,e2,-,h2⟩:=h.but hb
 rw[e] at e2
 simp only[Value.slice.injEq] at e2
 obtain⟨rfl,-,rfl⟩:=e2
 obtain⟨b,off,u,e1,h3,h4⟩:=h2 i hi
 obtain⟨a',c',rfl,h5,h6⟩:=id h4
 exact⟨b,off,a',c',e1,h3,h4⟩)
theorem zze:∃ i,prog.info? 144 = some i∧i.zero=some (.slice none 0 0)∧i.size=1∧i.bytes=24:=by(
 have h:(prog.info? 144).map (fun i=>(i.zero,i.size,i.bytes))=some (some (.slice none 0 0),1,24):=by kernel_rfl
 cases e:prog.info? 144 with
 | none=>rw[e] at h;simp at h
 | some i =>
  rw[e] at h
  simp only[Option.map_some,Option.some.injEq,Prod.mk.injEq] at h
  exact⟨i,rfl,h.1,h.2.1,h.2.2⟩)
structure ug (w:World) (base:Nat) (v:Value) (k:Nat) (ts:Nat→List ByteArray) (us:List Value):Prop where
 own:w.ownsRow base 144 1 v k us
 len:us.length=k
 val:∀ i,i<k→∃ u,us[i]? = some u∧zaq w base u (ts i)
theorem ug.empty (w:World) (base:Nat) (ts:Nat→List ByteArray):ug w base (.slice none 0 0) 0 ts []:=⟨World.ownsRow_nil _ _ _ _,rfl,fun i h=>by omega⟩
theorem ug.but {w w':World} {base:Nat} {v:Value} {k:Nat} {ts:Nat→List ByteArray} {us:List Value} (h:ug w base v k ts us) (hb:But [] w w'):ug w' base v k ts us :=
 ⟨zai h.own hb,h.len,fun i hi=>by
  obtain⟨u,e,h1⟩:=h.val i hi
  exact⟨u,e,h1.but hb⟩⟩
theorem ug.form {w:World} {base:Nat} {v:Value} {k:Nat} {ts:Nat→List ByteArray} {us:List Value} (h:ug w base v k ts us):∃ a c,v=.slice a k c:=ownsRow_form h.own
theorem zaq.mono {w:World} {b1 b2:Nat} {v:Value} {ts:List ByteArray} (h:zaq w b1 v ts) (hb:b2≤b1):zaq w b2 v ts:=zpb h hb
theorem zoc (w w0:World) (v:Value) (k:Nat) (ts:Nat→List ByteArray) (us:List Value) (base:Nat) (hown:ug w base v k ts us) (g:Nat) (u:Value) (c:w.cell? ⟨g,0,none⟩=some u) (hp:zaq w base u (ts k)) (hk:k<1000000) (h0:But [] w0 w) (hb:w0.heap.size≤base) (hw:base≤w.heap.size) :
   ∃ v' w',(Builtin.append_ #[69,69] 69 #[v,.slice (some ⟨g,0,none⟩) 1 1]).run prog w=.ok v' w'∧ug w' base v' (k+1) ts (us++[u])∧But [] w0 w':=by(
 obtain⟨i0,hi,hz0,hz1,hz2⟩:=zze
 obtain⟨v',w',hr,ho,hg,-⟩:=run_append_own (P:=prog) w base 69 69 144 i0 _ 1 24 underlying69 hi hz0 hz1 hz2 rfl (by decide) v k us hown.own ⟨g,0,none⟩ 1 1 [u] rfl (fun j x hj=>by
   cases j with
   | zero=>simp at hj;subst hj;exact c
   | succ j=>simp at hj) (fun x hx=>by
   simp only[List.mem_cons,List.not_mem_nil,or_false] at hx
   subst hx
   obtain⟨a,cc,rfl⟩:=hp.form
   rfl) (by unfold maxLen;omega) (by omega) hw
 have keep:∀ (x:Value) (l:List ByteArray),zaq w base x l→zaq w' base x l:=fun x l h =>
  h.kept hg (zfu h hown.own (by decide))
 refine⟨v',w',hr,⟨ho,by simp[hown.len],fun i hi=>?_⟩,l9 h0 hown.own hb hg⟩
 rcases Nat.lt_or_ge i k with hlt | hge
 ·obtain⟨x,e1,h1⟩:=hown.val i hlt
  exact⟨x,by rw[List.getElem?_append_left (by rw[hown.len];exact hlt)];exact e1,keep _ _ h1⟩
 ·obtain rfl:i=k:=by omega
  refine⟨u,?_,keep _ _ hp⟩
  rw[List.getElem?_append_right (by rw[hown.len];exact Nat.le_refl _),hown.len,Nat.sub_self]
  rfl)
def zne (w:World) (v:Value) (n:Nat) (ts:Nat→List ByteArray):Prop:=∃ a cap,v=.slice a n cap∧∀ i,i<n→∃ b off u,a=some ⟨b,off,none⟩∧w.cell? ⟨b,off+i,none⟩=some u∧zgo w u (ts i)
theorem zne.but {w w':World} {v:Value} {n:Nat} {ts:Nat→List ByteArray} (h:zne w v n ts) (hb:But [] w w'):zne w' v n ts:=by(
 obtain⟨a,cap,e,h⟩:=h
 refine⟨a,cap,e,fun i hi=>?_⟩
 obtain⟨b,off,u,e1,h1,h2⟩:=h i hi
 exact⟨b,off,u,e1,hb.ag h1 (by simp),h2.but hb⟩)
theorem ug.rows {w:World} {base:Nat} {v:Value} {k:Nat} {ts:Nat→List ByteArray} {us:List Value} (h:ug w base v k ts us):zne w v k ts:=by(
 rcases h.own.2 with ⟨e,h0⟩|⟨g,cap,cur,e,h1,h2,h3,-⟩
 ·exact⟨none,0,by rw[e,h0],fun i hi=>by omega⟩
 ·(
 refine⟨_,cap,e,fun i hi=>?_⟩
 obtain⟨u,e1,h4⟩:=h.val i hi
 refine⟨g,0,u,rfl,?_,h4.qif⟩
 have ho:=h.own
 rw[e] at ho
 rw[Nat.zero_add,ho.cellAt i (by have:=h.len;omega)]
 exact e1))
theorem zju (v:Value) (n:Nat) (fs:Nat→List Rat) (w:World) (hv:zcn w v n fs) (hn:n≤1000) (hl:∀ i,i<n→(fs i).length≤1000) (lf:∀ i,i<n→∀ f ∈ fs i,Len f 1000000) :
   Calls prog 37 #[v] w fun e w'=>∃ v' us,e=.returned v'∧ug w' w.heap.size v' n (fun i=>(fs i).map zbj) us∧But [] w w':=by(
 obtain⟨a,cap,rfl,hcap,hc⟩:=zrc hv
 have TE:=af (fun W (hb:But [] w W) i (hi:i<n) u (h:zn W u (fs i))=>zow u (fs i) W h (lf i hi) (hl i hi))
 have HC:=af hc
 clear hc hv hl lf
 go_enter func37,ntmps37
 go_wp2
 go_loopw [3,8] (fun o iv wr=>∃ (k:Nat) (us:List Value),k≤n∧iv=.int .i64 (k:Int)∧Hid (ug wr w.heap.size o k (fun i=>(fs i).map zbj) us∧But [] w wr)) (fun _ iv _=>n-(intOf iv).toNat)
 case atStart=>exact⟨0,[],Nat.zero_le _,rfl,ug.empty _ _ _,But.refl _ _⟩
 case round =>(
 obtain⟨k,us,hk,rfl,HI⟩:=hrel
 rename World=>wr
 by_cases hlt:k<n
 ·(
 obtain⟨b,off,ak,ck,rfl,hck,hqk⟩:=ae HC wr (ae HI).2 k hlt
 have FK:=af (ae TE wr (ae HI).2 k hlt _ hqk)
 clear hqk
 generalize (fs k).length=lk at *
 go_wp2_with fail
 refine (ae FK).mono ?_
 rintro e w1 ⟨v1,rfl,ho1,hb1⟩
 have hbw:=(ae HI).2
 obtain⟨V,hV⟩:∃ V,V=w1.alloc (.cells #[v1] 144):=⟨_,rfl⟩
 have bV1:But [] w1 V:=by rw[hV];exact (But.refl _ _).alloc _
 have cc:V.cell? ⟨w1.heap.size,0,none⟩=some v1:=by rw[hV];simp
 have bV:But [] wr V:=hb1.trans' bV1
 obtain⟨v',w',hr,ho,hB⟩:=zoc V w u3 k (fun i=>(fs i).map zbj) us w.heap.size ((ae HI).1.but bV) w1.heap.size _ cc ((ho1.but bV1).mono hbw.size) (by omega) (hbw.trans' bV) (Nat.le_refl _) (hbw.trans' bV).size
 have JJ:Hid (ug w' w.heap.size v' (k+1) (fun i=>(fs i).map zbj) (us++[v1])∧But [] w w'):=⟨ho,hB⟩
 obtain⟨a1,c1,e1⟩:=ho1.form
 rw[List.length_map] at e1
 subst e1
 rw[hV] at hr
 have HR:=af hr
 clear hr ho hB bV bV1 cc hV hbw ho1 hb1 HI hck FK
 go_wp2_with (at_builtin;refine zw rfl _ _ 69 69 rfl _ _ v' w' rfl rfl (ae HR) ?_)
 exact⟨⟨k+1,_,by omega,by go_num,ae JJ⟩,by simp[intOf];omega⟩)
 ·(
 obtain rfl:k=n:=by omega
 obtain⟨a',c',e'⟩:=(ae HI).1.form
 subst e'
 go_wp2
 go_ret
 exact⟨_,us,rfl,(ae HI).1,(ae HI).2⟩)))
theorem zha (v:Value) (n:Nat) (fs:Nat→List Rat) (w:World) (hv:zcr w v n fs) (hn:n≤1000) (hl:∀ i,i<n→(fs i).length≤1000) (lf:∀ i,i<n→∀ f ∈ fs i,Len f 1000000) (htab:Lib.TabIs prog w "internal/strconv.uint64pow10" .u64 Lib.pow10Tab) :
   Calls prog 36 #[v] w fun e w'=>∃ v' us,e=.returned v'∧ug w' w.heap.size v' n (fun i=>(fs i).map zbj) us∧But [] w w':=by(
 obtain⟨a,cap,rfl,hcap,hc⟩:=zst hv
 have TE:=af (fun W (hb:But [] w W) i (hi:i<n) u (h:av W u (fs i))=>zlf u (fs i) W h (lf i hi) (hl i hi) (TabIs.but htab hb))
 have HC:=af hc
 clear hc hv hl lf htab
 go_enter func36,ntmps36
 go_wp2
 go_loopw [3,8] (fun o iv wr=>∃ (k:Nat) (us:List Value),k≤n∧iv=.int .i64 (k:Int)∧Hid (ug wr w.heap.size o k (fun i=>(fs i).map zbj) us∧But [] w wr)) (fun _ iv _=>n-(intOf iv).toNat)
 case atStart=>exact⟨0,[],Nat.zero_le _,rfl,ug.empty _ _ _,But.refl _ _⟩
 case round =>(
 obtain⟨k,us,hk,rfl,HI⟩:=hrel
 rename World=>wr
 by_cases hlt:k<n
 ·(
 obtain⟨b,off,ak,ck,rfl,hck,hqk⟩:=ae HC wr (ae HI).2 k hlt
 have FK:=af (ae TE wr (ae HI).2 k hlt _ hqk)
 clear hqk
 generalize (fs k).length=lk at *
 go_wp2_with fail
 refine (ae FK).mono ?_
 rintro e w1 ⟨v1,rfl,ho1,hb1⟩
 have hbw:=(ae HI).2
 obtain⟨V,hV⟩:∃ V,V=w1.alloc (.cells #[v1] 144):=⟨_,rfl⟩
 have bV1:But [] w1 V:=by rw[hV];exact (But.refl _ _).alloc _
 have cc:V.cell? ⟨w1.heap.size,0,none⟩=some v1:=by rw[hV];simp
 have bV:But [] wr V:=hb1.trans' bV1
 obtain⟨v',w',hr,ho,hB⟩:=zoc V w u3 k (fun i=>(fs i).map zbj) us w.heap.size ((ae HI).1.but bV) w1.heap.size _ cc ((ho1.but bV1).mono hbw.size) (by omega) (hbw.trans' bV) (Nat.le_refl _) (hbw.trans' bV).size
 have JJ:Hid (ug w' w.heap.size v' (k+1) (fun i=>(fs i).map zbj) (us++[v1])∧But [] w w'):=⟨ho,hB⟩
 obtain⟨a1,c1,e1⟩:=ho1.form
 rw[List.length_map] at e1
 subst e1
 rw[hV] at hr
 have HR:=af hr
 clear hr ho hB bV bV1 cc hV hbw ho1 hb1 HI hck FK
 go_wp2_with (at_builtin;refine zw rfl _ _ 69 69 rfl _ _ v' w' rfl rfl (ae HR) ?_)
 exact⟨⟨k+1,_,by omega,by go_num,ae JJ⟩,by simp[intOf];omega⟩)
 ·(
 obtain rfl:k=n:=by omega
 obtain⟨a',c',e'⟩:=(ae HI).1.form
 subst e'
 go_wp2
 go_ret
 exact⟨_,us,rfl,(ae HI).1,(ae HI).2⟩)))
theorem zqw (v1 v2:Value) (n:Nat) (ts:Nat→List ByteArray) (w:World) (h1:zne w v1 n ts) (h2:zne w v2 n ts) (hn:n≤1000) (hl:∀ i,i<n→(ts i).length≤1000) :
   Calls prog 35 #[v1,v2] w fun e w'=>e=.returned (.bool true)∧But [] w w':=by(
 obtain⟨a1,k1,rfl,c1⟩:=h1
 obtain⟨a2,k2,rfl,c2⟩:=h2
 have hc:∀ W,But [] w W→∀ i,i<n→∃ b1 o1 b2 o2 x1 m1 y1 x2 m2 y2,a1=some ⟨b1,o1,none⟩∧a2=some ⟨b2,o2,none⟩∧W.cell? ⟨b1,o1+i,none⟩=some (.slice x1 m1 y1)∧W.cell? ⟨b2,o2+i,none⟩=some (.slice x2 m2 y2)∧∀ X,But [] W X→Calls prog 105 #[.slice x1 m1 y1,.slice x2 m2 y2] X fun e w'=>e=.returned (.bool true)∧But [] X w':=fun W hb i hi=>by
  obtain⟨b1,o1,p1,e1,d1,t1⟩:=c1 i hi
  obtain⟨b2,o2,p2,e2,d2,t2⟩:=c2 i hi
  obtain⟨x1,y1,rfl,-⟩:=id t1
  obtain⟨x2,y2,rfl,-⟩:=id t2
  exact⟨b1,o1,b2,o2,x1,_,y1,x2,_,y2,e1,e2,hb.ag d1 (by simp),hb.ag d2 (by simp),fun X hX=>same_eq _ _ (ts i) X (t1.but (hb.trans' hX)) (t2.but (hb.trans' hX)) (hl i hi)⟩
 have HC:=af hc
 clear hc c1 c2 hl
 go_enter func35,ntmps35
 go_wp2
 go_loopw [5] (fun i wr=>∃ (k:Nat),k≤n∧i=.int .i64 (k:Int)∧Hid (But [] w wr)) (fun i _=>n-(intOf i).toNat)
 case atStart=>exact⟨0,Nat.zero_le _,rfl,But.refl _ _⟩
 case round =>(
 obtain⟨k,hk,rfl,HI⟩:=hrel
 rename World=>wr
 by_cases hlt:k<n
 ·(
 obtain⟨b1,o1,b2,o2,x1,m1,y1,x2,m2,y2,rfl,rfl,d1,d2,SA⟩:=ae HC wr (ae HI) k hlt
 have SAH:=af SA
 clear SA
 go_wp2
 go_region_with (go_at_call 105;refine (ae SAH _ ?_).mono ?_;(repeat (first | exact But.refl _ _ | apply But.drew));rintro e w' ⟨rfl,hbs⟩)
 all_goals(
 have HB3:=af ((ae HI).trans' (((But.refl _ _).drew).trans' hbs))
 go_wp2
 exact⟨⟨k+1,by omega,by go_num,by first | exact ae HB3 | exact (ae HB3).drew⟩,by simp[intOf];omega⟩))
 ·obtain rfl:k=n:=by omega
  go_wp2
  go_ret
  exact⟨rfl,ae HI⟩))
end Go.Proofs.YtagmkkiagjmimaaGreatDoor
