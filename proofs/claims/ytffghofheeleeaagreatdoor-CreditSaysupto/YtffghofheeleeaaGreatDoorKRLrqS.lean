/- Out of RLe: what needs no more than thes -/
import Derived.Test.YtffghofheeleeaaGreatDoorKEKsqS
import Derived.Test.YtffghofheeleeaaGreatDoorKLXqS
namespace Go.Proofs.YtffghofheeleeaaGreatDoor
open Go.Proofs.Tryz
open Go.RowKit
set_option maxHeartbeats 8000000
set_option maxRecDepth 100000
theorem qiu:∃ i,prog.info? 69 = some i∧i.zero=some (.slice none 0 0)∧i.size=1∧i.bytes=24:=by
 have h:(prog.info? 69).map (fun i=>(i.zero,i.size,i.bytes))=some (some (.slice none 0 0),1,24):=by kernel_rfl
 cases e:prog.info? 69 with
 | none=>rw[e] at h;simp at h
 | some i =>
  rw[e] at h
  simp only[Option.map_some,Option.some.injEq,Prod.mk.injEq] at h
  exact⟨i,rfl,h.1,h.2.1,h.2.2⟩
set_option linter.unusedVariables false
structure zfi (w:World) (base:Nat) (v:Value) (k:Nat) (fs:Nat→List Rat) (us:List Value):Prop where
 own:w.ownsRow base 69 1 v k us
 len:us.length=k
 val:∀ i,i<k→∃ u vs,us[i]? = some u∧zae w base u (fs i) vs
 nil:k=0→v=.slice none 0 0
theorem zfi.empty (w:World) (base:Nat) (fs:Nat→List Rat):zfi w base (.slice none 0 0) 0 fs []:=⟨World.ownsRow_nil _ _ _ _,rfl,fun i h=>by omega,fun _=>rfl⟩
theorem zfi.but {w w':World} {base:Nat} {v:Value} {k:Nat} {fs:Nat→List Rat} {us:List Value} (h:zfi w base v k fs us) (hb:But [] w w'):zfi w' base v k fs us :=
 ⟨mg h.own hb,h.len,fun i hi=>by
  obtain⟨u,vs,e,h1⟩:=h.val i hi
  exact⟨u,vs,e,h1.but hb⟩,h.nil⟩
theorem zfi.form {w:World} {base:Nat} {v:Value} {k:Nat} {fs:Nat→List Rat} {us:List Value} (h:zfi w base v k fs us):∃ a c,v=.slice a k c:=ownsRow_form h.own
theorem qjd (w w0:World) (v:Value) (k:Nat) (fs:Nat→List Rat) (us:List Value) (base:Nat) (hown:zfi w base v k fs us) (g:Nat) (u:Value) (c:w.cell? ⟨g,0,none⟩=some u) (hp:∃ vs,zae w base u (fs k) vs) (hk:k<1000000) (h0:But [] w0 w) (hb:w0.heap.size≤base) (hw:base≤w.heap.size) :
  ∃ v' w',(Builtin.append_ #[72,72] 72 #[v,.slice (some ⟨g,0,none⟩) 1 1]).run prog w=.ok v' w'∧zfi w' base v' (k+1) fs (us++[u])∧But [] w0 w':=by
 obtain⟨vs,hp⟩:=hp
 obtain⟨i0,hi,hz0,hz1,hz2⟩:=qiu
 obtain⟨v',w',hr,ho,hg,-⟩:=run_append_own (P:=prog) w base 72 72 69 i0 _ 1 24 underlying72 hi hz0 hz1 hz2 rfl (by decide) v k us hown.own ⟨g,0,none⟩ 1 1 [u] rfl (fun j x hj=>by
   cases j with
   | zero=>simp at hj;subst hj;exact c
   | succ j=>simp at hj) (fun x hx=>by
   simp only[List.mem_cons,List.not_mem_nil,or_false] at hx
   subst hx
   obtain⟨a,cc,rfl⟩:=hp.form
   rfl) (by unfold maxLen;omega) (by omega) hw
 have hB:But v.ownBlock.toList w w':=⟨hg.os,hg.tape,hg.output,hg.size,fun j hj hn=>hg.block j hj (by
  intro e
  rw[← e] at hn
  simp at hn)⟩
 have stay:∀ (b:Nat) (r:Rat),za w b r→za w' b r:=by
  by_cases h1:k=0
  ·have:v.ownBlock=none:=by rw[hown.nil h1];rfl
   rw[this] at hB
   exact fun b r h=>h.but hB
  ·rcases hown.own.2 with ⟨-,e⟩|⟨gb,cap,cur,e,-⟩
   ·omega
   ·obtain⟨x,xs,e1,hx⟩:=hown.val 0 (by omega)
    obtain⟨a,cc,rfl⟩:=hx.form
    subst e
    have c0:w.cell? ⟨gb,0,none⟩=some (.slice a (fs 0).length cc):=by
     rw[hown.own.cellAt 0 (by have:=hown.len;omega)]
     exact e1
    exact fun b r h=>h.zjq hB c0 (qar _ _ _)
 have keep:∀ (x:Value) (l:List Rat) (xs:List Value),zae w base x l xs→zae w' base x l xs:=fun x l xs h =>
  ⟨h.own.kept hg (zar h.own hown.own (by decide)),h.len,fun i f hf=>by
   obtain⟨y,e1,b,e2,h2⟩:=h.val i f hf
   exact⟨y,e1,b,e2,stay b f h2⟩,h.nil⟩
 refine⟨v',w',hr,⟨ho,by simp[hown.len],fun i hi=>?_,fun e=>by omega⟩,wo h0 hown.own hb hg⟩
 rcases Nat.lt_or_ge i k with hlt | hge
 ·obtain⟨x,xs,e1,h1⟩:=hown.val i hlt
  exact⟨x,xs,by rw[List.getElem?_append_left (by rw[hown.len];exact hlt)];exact e1,keep _ _ _ h1⟩
 ·obtain rfl:i=k:=by omega
  refine⟨u,vs,?_,keep _ _ _ hp⟩
  rw[List.getElem?_append_right (by rw[hown.len];exact Nat.le_refl _),hown.len,Nat.sub_self]
  rfl
def zaj (w:World) (v:Value) (n:Nat) (fs:Nat→List Rat):Prop:=∃ a cap,v=.slice a n cap∧n≤cap∧∀ i,i<n→∃ b off u,a=some ⟨b,off,none⟩∧w.cell? ⟨b,off+i,none⟩=some u∧jr w u (fs i)
theorem zaj.but {w w':World} {v:Value} {n:Nat} {fs:Nat→List Rat} (h:zaj w v n fs) (hb:But [] w w'):zaj w' v n fs:=by
 obtain⟨a,cap,e,hc,h⟩:=h
 refine⟨a,cap,e,hc,fun i hi=>?_⟩
 obtain⟨b,off,u,e1,h1,h2⟩:=h i hi
 exact⟨b,off,u,e1,hb.ag h1 (by simp),h2.but hb⟩
theorem zfi.rows {w:World} {base:Nat} {v:Value} {k:Nat} {fs:Nat→List Rat} {us:List Value} (h:zfi w base v k fs us):zaj w v k fs:=by
 rcases h.own.2 with ⟨e,h0⟩|⟨g,cap,cur,e,h1,h2,h3,-⟩
 ·exact⟨none,0,by rw[e,h0],by omega,fun i hi=>by omega⟩
 ·refine⟨_,cap,e,h3,fun i hi=>?_⟩
  obtain⟨u,vs,e1,h4⟩:=h.val i hi
  refine⟨g,0,u,rfl,?_,h4.qky⟩
  have ho:=h.own
  rw[e] at ho
  rw[Nat.zero_add,ho.cellAt i (by have:=h.len;omega)]
  exact e1
theorem zys (q:Option Addr) (n cap:Nat) (rs:List (List (Int × Int))) (w:World) (hv:zcz w (.slice q n cap) rs) (hN:n=rs.length) (hn:n≤1000) (hl:∀ i,i<n→(rs[i]?.getD []).length≤1000) (hf:∀ r ∈ rs,∀ z ∈ r,Fits z) :
  Calls prog 24 #[.slice q n cap] w fun e w'=>∃ v' us,e=.returned v'∧zfi w' w.heap.size v' n (fun i=>(rs[i]?.getD []).map qf) us∧But [] w w':=by
 have hmem:∀ i,i<n→∀ z ∈ rs[i]?.getD [],Fits z:=fun i hi=>by
  rw[List.getElem?_eq_getElem (by omega),Option.getD_some]
  exact hf _ (List.getElem_mem _)
 have FS:Hid (∀ i,i<n→∀ W v,zee W v (rs[i]?.getD [])→Calls prog 70 #[v] W fun e w'=>∃ a c vs,e=.returned (.slice a (rs[i]?.getD []).length c)∧zae w' W.heap.size (.slice a (rs[i]?.getD []).length c) ((rs[i]?.getD []).map qf) vs∧But [] W w'):=fun i hi W v hq=>by
  refine (zyt v _ W hq (hmem i hi) (hl i hi)).mono ?_
  rintro e w' ⟨v',vs,e1,h1,h2⟩
  obtain⟨a,c,hac⟩:=h1.form
  rw[List.length_map] at hac
  subst hac
  exact⟨a,c,vs,e1,h1,h2⟩
 have HV:=af hv
 have HN:=af hN
 clear hv hN hl hf hmem
 go_enter func24,ntmps24
 go_wp2
 go_loopw [3,8] (fun o iv wr=>∃ k:Nat,k≤n∧iv=.int .i64 (k:Int)∧Hid ((∃ us:List Value,zfi wr w.heap.size o k (fun i=>(rs[i]?.getD []).map qf) us)∧But [] w wr)) (fun _ iv _=>n-(intOf iv).toNat)
 case atStart=>exact⟨0,Nat.zero_le _,rfl,⟨[],zfi.empty _ _ _⟩,But.refl _ _⟩
 case round =>
  obtain⟨k,hk,rfl,HI⟩:=hrel
  rename World=>wr
  by_cases hlt:k<n
  ·obtain⟨b,off,ak,ck,rfl,hck,hqk⟩:=((ae HV).but (ae HI).2).at k hlt
   have FK:=af (ae FS k hlt wr _ hqk)
   obtain⟨lk,hlk⟩:∃ lk,lk=(rs[k]?.getD []).length:=⟨_,rfl⟩
   rw[← hlk] at hck FK
   clear hqk hlk
   go_wp2_with fail
   refine (ae FK).mono ?_
   rintro e w1 ⟨a1,c1,vs,rfl,ho1,hb1⟩
   obtain⟨V,hV⟩:∃ V,V=w1.alloc (.cells #[.slice a1 lk c1] 69):=⟨_,rfl⟩
   have bV1:But [] w1 V:=by rw[hV];exact (But.refl _ _).alloc _
   have cc:V.cell? ⟨w1.heap.size,0,none⟩=some (.slice a1 lk c1):=by rw[hV];simp
   have bV:But [] wr V:=hb1.trans' bV1
   obtain⟨⟨us,hus⟩,hbw⟩:=ae HI
   obtain⟨v',w',hr,ho,hB⟩:=qjd V w u3 k (fun i=>(rs[i]?.getD []).map qf) us w.heap.size (hus.but bV) w1.heap.size _ cc ⟨vs,(ho1.but bV1).mono hbw.size⟩ (by omega) (hbw.trans' bV) (Nat.le_refl _) (hbw.trans' bV).size
   have JJ:Hid ((∃ us:List Value,zfi w' w.heap.size v' (k+1) (fun i=>(rs[i]?.getD []).map qf) us)∧But [] w w'):=⟨⟨_,ho⟩,hB⟩
   rw[hV] at hr
   have HR:=af hr
   clear hr ho hB bV bV1 cc hV hus hbw ho1 hb1 HI hck FK
   go_wp2_with (at_builtin;refine qw rfl _ _ 72 72 rfl _ _ v' w' rfl rfl (ae HR) ?_)
   exact⟨⟨k+1,by omega,by go_num,ae JJ⟩,by simp[intOf];omega⟩
  ·obtain rfl:k=n:=by omega
   obtain⟨⟨us,hus⟩,hbw⟩:=ae HI
   have FIN:=af (And.intro hus hbw)
   obtain⟨a',c',rfl⟩:=hus.form
   clear hus hbw HI
   go_wp2
   go_ret
   exact⟨_,us,rfl,(ae FIN).1,(ae FIN).2⟩
end Go.Proofs.YtffghofheeleeaaGreatDoor
