/- Lists of the reference's numbers: as the -/
import Derived.Test.YtagmkkiagjmimaaGreatDoorXRP
import Derived.Test.YtagmkkiagjmimaaGreatDoorXT3r
namespace Go.Proofs.YtagmkkiagjmimaaGreatDoor
set_option linter.unusedVariables false
open Go.Proofs.Tryz
open Go.RowKit
def zxf (u:Value):Prop:=(∀ s,u≠.bool s)∧∀ n:Int,u≠.int .u32 n
theorem ze.zru {w w':World} {b o g:Nat} {z:Int} {u:Value} (h:ze w b o z) (hb:But [g] w w') (hn:b≠g) (hc:w.cell? ⟨g,0,none⟩=some u) (hu:zxf u):ze w' b o z:=by
 obtain⟨h0,v,h1,h2⟩:=h
 exact⟨hb.ag h0 (by simpa using hn),v,hb.ag h1 (by simpa using hn),h2.over hb hc (fun n e=>hu.2 n e)⟩
theorem zi.zru {w w':World} {b g:Nat} {f:Rat} {u:Value} (h:zi w b f) (hb:But [g] w w') (hc:w.cell? ⟨g,0,none⟩=some u) (hu:zxf u):zi w' b f:=by(
 have hn:b≠g:=fun e=>by
  subst e
  have h1:=h.up.1
  rw[hc] at h1
  exact hu.1 _ (Option.some.inj h1)
 exact⟨h.up.zru hb hn hc hu,h.low.zru hb hn hc hu,h.sa.but hb (by simpa using hn),h.sb.but hb (by simpa using hn)⟩)
theorem zyq (q:Option Addr):zxf (.pointer q):=⟨fun s e=>by simp at e,fun n e=>by simp at e⟩
theorem zsd (q:Option Addr) (n c:Nat):zxf (.slice q n c):=⟨fun s e=>by simp at e,fun n e=>by simp at e⟩
def zjs (w:World) (v:Value) (f:Rat):Prop:=∃ g,v=.pointer (some ⟨g,0,none⟩)∧zi w g f
theorem zjs.but {w w':World} {v:Value} {f:Rat} (h:zjs w v f) (hb:But [] w w'):zjs w' v f:=h.elim fun g ⟨e,h⟩=>⟨g,e,h.but hb⟩
def zn (w:World) (v:Value) (fs:List Rat):Prop:=∃ a cap,v=.slice a fs.length cap∧fs.length≤cap∧∀ (i:Nat) (f:Rat),fs[i]? = some f→∃ b off u,a=some ⟨b,off,none⟩∧w.cell? ⟨b,off+i,none⟩=some u∧zjs w u f
theorem zn.but {w w':World} {v:Value} {fs:List Rat} (h:zn w v fs) (hb:But [] w w'):zn w' v fs:=by(
 obtain⟨a,cap,e,h1,h2⟩:=h
 refine⟨a,cap,e,h1,fun i f hi=>?_⟩
 obtain⟨b,off,u,h3,h4,h5⟩:=h2 i f hi
 exact⟨b,off,u,h3,hb.ag h4 (by simp),h5.but hb⟩)
theorem zn.open {w:World} {v:Value} {fs:List Rat} (h:zn w v fs):∃ a cap,v=.slice a fs.length cap∧fs.length≤cap:=by
 obtain⟨a,cap,e,h1,-⟩:=h
 exact⟨a,cap,e,h1⟩
theorem zn.at {w:World} {a:Option Addr} {n cap:Nat} {fs:List Rat} (h:zn w (.slice a n cap) fs) (i:Nat) (hi:i<n):n=fs.length∧∃ b off g f,a=some ⟨b,off,none⟩∧w.cell? ⟨b,off+i,none⟩=some (.pointer (some ⟨g,0,none⟩))∧fs[i]? = some f∧zi w g f:=by(
 obtain⟨a',cap',e,h1,h2⟩:=h
 simp only[Value.slice.injEq] at e
 obtain⟨rfl,rfl,rfl⟩:=e
 obtain⟨b,off,u,h3,h4,g,rfl,h5⟩:=h2 i _ (List.getElem?_eq_getElem hi)
 exact⟨rfl,b,off,g,_,h3,h4,List.getElem?_eq_getElem hi,h5⟩)
theorem qbz:∃ i,prog.info? 37 = some i∧i.zero=some (.pointer none)∧i.size=1∧i.bytes=8:=by(
 have h:(prog.info? 37).map (fun i=>(i.zero,i.size,i.bytes))=some (some (.pointer none),1,8):=by kernel_rfl
 cases e:prog.info? 37 with
 | none=>rw[e] at h;simp at h
 | some i =>
  rw[e] at h
  simp only[Option.map_some,Option.some.injEq,Prod.mk.injEq] at h
  exact⟨i,rfl,h.1,h.2.1,h.2.2⟩)
structure zar (w:World) (base:Nat) (v:Value) (fs:List Rat) (us:List Value):Prop where
 own:w.ownsRow base 37 1 v fs.length us
 len:us.length=fs.length
 val:∀ (i:Nat) (f:Rat),fs[i]? = some f→∃ u,us[i]? = some u∧zjs w u f
 nil:fs=[]→v=.slice none 0 0
theorem zar.empty (w:World) (base:Nat):zar w base (.slice none 0 0) [] []:=⟨World.ownsRow_nil _ _ _ _,rfl,fun i f h=>by simp at h,fun _=>rfl⟩
theorem zar.but {w w':World} {base:Nat} {v:Value} {fs:List Rat} {us:List Value} (h:zar w base v fs us) (hb:But [] w w'):zar w' base v fs us :=
 ⟨zai h.own hb,h.len,fun i f hi=>(h.val i f hi).elim fun u ⟨e,p⟩=>⟨u,e,p.but hb⟩,h.nil⟩
theorem zar.mono {w:World} {base b2:Nat} {v:Value} {fs:List Rat} {us:List Value} (h:zar w base v fs us) (hb:b2≤base):zar w b2 v fs us:=by(
 refine⟨⟨h.own.1,?_⟩,h.len,h.val,h.nil⟩
 rcases h.own.2 with e|⟨g,cap,cur,e,h1,h2⟩
 ·exact .inl e
 ·exact .inr ⟨g,cap,cur,e,Nat.le_trans hb h1,h2⟩)
theorem zar.form {w:World} {base:Nat} {v:Value} {fs:List Rat} {us:List Value} (h:zar w base v fs us):∃ a c,v=.slice a fs.length c:=ownsRow_form h.own
theorem zar.block {w:World} {base:Nat} {v:Value} {fs:List Rat} {us:List Value} (h:zar w base v fs us) (h0:fs≠[]):∃ g cap,v=.slice (some ⟨g,0,none⟩) fs.length cap∧fs.length≤cap∧base≤g∧v.ownBlock=some g∧∃ q,w.cell? ⟨g,0,none⟩=some (.pointer q):=by(
 have hl:0<fs.length:=List.length_pos_iff.2 h0
 rcases h.own.2 with ⟨-,e⟩|⟨g,cap,cur,e,h1,h2,h3,-⟩
 ·omega
 ·refine⟨g,cap,e,h3,h1,by rw[e];rfl,?_⟩
  obtain⟨u,hu,b,rfl,-⟩:=h.val 0 _ (List.getElem?_eq_getElem hl)
  have hc:=h.own.cells (g:=g) (by rw[e];rfl) 0 _ hu
  exact⟨_,by simpa [Addr.add] using hc⟩)
theorem zar.qhd {w:World} {base:Nat} {v:Value} {fs:List Rat} {us:List Value} (h:zar w base v fs us):zn w v fs:=by(
 by_cases h0:fs=[]
 ·subst h0
  rw[h.nil rfl]
  exact⟨none,0,rfl,Nat.le_refl _,fun i x hx=>by simp at hx⟩
 ·(
 obtain⟨g,cap,e,h3,-,e2,-⟩:=h.block h0
 refine⟨_,cap,e,h3,fun i f hi=>?_⟩
 obtain⟨u,hu,hp⟩:=h.val i f hi
 refine⟨g,0,u,rfl,?_,hp⟩
 have hc:=h.own.cells (g:=g) (by rw[e];rfl) i u hu
 have ea:(⟨g,0,none⟩:Addr).add i=⟨g,0+i,none⟩:=by
  by_cases hz:i=0
  ·simp[Addr.add,hz]
  ·simp[Addr.add,hz]
 rw[ea] at hc
 exact hc))
theorem di (w w0:World) (v:Value) (fs:List Rat) (us:List Value) (base:Nat) (hown:zar w base v fs us) (g:Nat) (u:Value) (f:Rat) (c:w.cell? ⟨g,0,none⟩=some u) (hp:zjs w u f) (hk:fs.length<1000000) (h0:But [] w0 w) (hb:w0.heap.size≤base) (hw:base≤w.heap.size) :
   ∃ v' w',(Builtin.append_ #[42,42] 42 #[v,.slice (some ⟨g,0,none⟩) 1 1]).run prog w=.ok v' w'∧zar w' base v' (fs++[f]) (us++[u])∧But [] w0 w'∧But v.ownBlock.toList w w'∧w.heap.size≤w'.heap.size∧(∀ (b:Nat) (r:Rat),zi w b r→zi w' b r):=by(
 obtain⟨i0,hi,hz0,hz1,hz2⟩:=qbz
 obtain⟨v',w',hr,ho,hg,-⟩:=run_append_own (P:=prog) w base 42 42 37 i0 _ 1 8 underlying42 hi hz0 hz1 hz2 rfl (by decide) v fs.length us hown.own ⟨g,0,none⟩ 1 1 [u] rfl (fun j x hj=>by
   cases j with
   | zero=>simp at hj;subst hj;exact c
   | succ j=>simp at hj) (fun x hx=>by
   simp only[List.mem_cons,List.not_mem_nil,or_false] at hx
   subst hx
   obtain⟨b,rfl,-⟩:=hp
   rfl) (by unfold maxLen;omega) (by omega) hw
 have hB:But v.ownBlock.toList w w':=⟨hg.os,hg.tape,hg.output,hg.size,fun j hj hn=>hg.block j hj (by
  intro e
  rw[← e] at hn
  simp at hn)⟩
 have stay:∀ (b:Nat) (r:Rat),zi w b r→zi w' b r:=by
  by_cases h1:fs=[]
  ·have:v.ownBlock=none:=by rw[hown.nil h1];rfl
   rw[this] at hB
   exact fun b r h=>h.but hB
  ·obtain⟨gb,cap,-,-,-,e2,q,hq⟩:=hown.block h1
   rw[e2] at hB
   exact fun b r h=>h.zru hB hq (zyq q)
 have stayP:∀ (x:Value) (r:Rat),zjs w x r→zjs w' x r:=fun x r ⟨b,e,h⟩=>⟨b,e,stay b r h⟩
 refine⟨v',w',hr,⟨by rw[List.length_append];exact ho,by simp[hown.len],fun i q hi=>?_,fun e=>by simp at e⟩,l9 h0 hown.own hb hg,hB,hg.size,stay⟩
 rcases Nat.lt_or_ge i fs.length with hlt | hge
 ·rw[List.getElem?_append_left hlt] at hi
  obtain⟨x,e1,h1⟩:=hown.val i q hi
  exact⟨x,by rw[List.getElem?_append_left (by rw[hown.len];exact hlt)];exact e1,stayP _ _ h1⟩
 ·(
 have hi0:i=fs.length:=by
  have:=(List.getElem?_eq_some_iff.1 hi).1
  simp at this
  omega
 subst hi0
 rw[List.getElem?_append_right (Nat.le_refl _),Nat.sub_self] at hi
 simp only[List.getElem?_cons_zero,Option.some.injEq] at hi
 subst hi
 refine⟨u,?_,stayP _ _ hp⟩
 rw[List.getElem?_append_right (by rw[hown.len];exact Nat.le_refl _),hown.len,Nat.sub_self]
 rfl))
end Go.Proofs.YtagmkkiagjmimaaGreatDoor
