/- What the rows of the laws of package cla -/
import Derived.Test.YtffghofheeleeaaGreatDoorRows
import Derived.Test.YtffghofheeleeaaGreatDoorTie
import Derived.Test.YtffghofheeleeaaGreatDoorCards
import Derived.Lib.SmallJoins
import Derived.ProofKit
import Derived.OpenShut
import Derived.LaidMore
import Derived.LaidHandle
import Derived.Stop.Joined
import Derived.SevenTiedAt
import Derived.Deep.SlicePairs
import Derived.Carry
import Derived.Shelf.Vars
import Derived.Deep.DeepHandedRow
import Derived.Test.YtffghofheeleeaaGreatDoorKJJqS
namespace Go.Proofs.YtffghofheeleeaaGreatDoor
open Go.Proofs.Tryz
open Go.ChangeShapes Go.WideShapes Go.ChangeAt Go.RowKit Go.Joins
set_option maxHeartbeats 16000000
set_option maxRecDepth 100000
set_option linter.unusedVariables false
theorem own:ownKnob prog.godebug=none:=by kernel_rfl
theorem qzv:prog.globalNamed "internal/strconv.uint64pow10" = some 1:=by kernel_rfl
theorem qzi:(prog.globals[1]?).map (·.type)=some 239:=by kernel_rfl
theorem qzw:prog.globalNamed "errors.errorType" = some 0:=by kernel_rfl
theorem qkv:(prog.cutTypes.find? (·.1== "internal/reflectlite.rtype")).map (·.2)=some 183:=by kernel_rfl
theorem qdf:((List.range 277).filter fun t=>prog.rowNamed t [101,114,114,111,114])=[29]:=by kernel_rfl
theorem qjl:prog.types.size=277:=by kernel_rfl
theorem zxi:prog.cellsOf 239 = 20:=by kernel_rfl
theorem znt:prog.cellsOf 23 = 2:=by kernel_rfl
theorem qec:prog.cellsOf 24 = 1:=by kernel_rfl
theorem zwd:(Rows.laid_internal_strconv_uint64pow10:DataW Unit)=Lib.tabData .u64 Lib.pow10Tab:=by kernel_rfl
theorem zwh {W:World} (h:laidMetH prog [("math/bits.deBruijn32tab",Rows.laid_math_bits_deBruijn32tab),("math/bits.deBruijn64tab",Rows.laid_math_bits_deBruijn64tab),("internal/strconv.uint64pow10",Rows.laid_internal_strconv_uint64pow10),("errors.errorType",Rows.laid_errors_errorType)] W):Lib.TabIs prog W "internal/strconv.uint64pow10" .u64 Lib.pow10Tab∧W.cell? ⟨0,0,none⟩=some (.iface 183 (.agg #[.pointer (some ⟨6,29,none⟩)])):=by
 have h':laidMet prog [("math/bits.deBruijn32tab",Rows.laid_math_bits_deBruijn32tab),("math/bits.deBruijn64tab",Rows.laid_math_bits_deBruijn64tab),("internal/strconv.uint64pow10",Rows.laid_internal_strconv_uint64pow10)] W∧handlesMet prog [("errors.errorType",Rows.laid_errors_errorType)] W:=h
 refine⟨?_,?_⟩
 ·obtain⟨ps,⟨g0,t0,cs0,f0,p0,q0,-,-,-,-,⟨g1,t1,cs1,f1,p1,q1,-,-,-,-,⟨g2,t2,cs2,f2,p2,q2,hg2,ht2,hv2,hd2,-,-⟩,-⟩,-⟩,-⟩:=h'.1
  obtain rfl:=Option.some.inj (qzv.symm.trans hg2)
  obtain rfl:=Option.some.inj (qzi.symm.trans ht2)
  rw[zwd] at hd2
  unfold Lib.TabIs
  rw[hv2,← Lib.cells_of_tab underlying239 underlying24 qec zxi hd2]
 ·obtain⟨name,u,ty,e1,e2,e3,e4,e5⟩:=h'.2 _ (List.mem_singleton.2 rfl)
  have en:name=[101,114,114,111,114]:=(Option.some.inj e1).symm
  subst en
  obtain rfl:=Option.some.inj (qkv.symm.trans e2)
  have hm:ty ∈ (List.range 277).filter fun t=>prog.rowNamed t [101,114,114,111,114]:=List.mem_filter.2 ⟨List.mem_range.2 (by rw[← qjl];exact e3),e4⟩
  rw[qdf] at hm
  obtain rfl:=List.mem_singleton.1 hm
  have hh:typeHandle prog 29 = .pointer (some ⟨6,29,none⟩):=by kernel_rfl
  rw[hh] at e5
  simpa using World.var?_cell qzw e5 0
theorem zix:laidOutB prog=true:=by kernel_rfl
theorem zsn:prog.cellsOf 3 = 1:=by kernel_rfl
theorem zaf {w:World} {a:Addr} {v:Value} (h:w.cell? a=some v):a.spot=none:=by
 unfold World.cell? at h
 cases hs:a.spot with
 | none=>rfl
 | some _ =>
  rw[hs] at h
  cases hb:w.heap[a.block]? with
  | none=>rw[hb] at h;simp at h
  | some o=>rw[hb] at h;cases o <;> simp at h
theorem zcc (a:Addr) (k:Nat) (h:(a.add k).spot=none):a.add k=⟨a.block,a.off+k,none⟩∧(0<k∨a.spot=none):=by
 unfold Addr.add at *
 split at h
 ·rename_i hk
  subst hk
  refine⟨?_,.inr h⟩
  rw[if_pos rfl]
  cases a
  simp only at h
  subst h
  rfl
 ·rename_i hk
  exact⟨by rw[if_neg hk],.inl (by omega)⟩
open Go.RowKit
def sgN (f:Nat→Nat):Nat→Nat
 | 0=>0
 | k+1=>sgN f k+f k
theorem ztt {W:World} {v:Value} {f:Rat} (h:aq W v f) (hp:f.num.natAbs < 18446744073709551616) (hq:f.den < 18446744073709551616) (W':World):aq W' v f:=by
 rcases h with h|⟨h,-⟩
 ·exact .inl h
 ·omega
def zcz (w:World) (v:Value) (rs:List (List (Int × Int))):Prop:=∃ a cap,v=.slice a rs.length cap∧∀ i r,rs[i]? = some r→∃ b off u,a=some ⟨b,off,none⟩∧w.cell? ⟨b,off+i,none⟩=some u∧zee w u r
theorem zcz.but {w w':World} {v:Value} {rs:List (List (Int × Int))} (h:zcz w v rs) (hb:But [] w w'):zcz w' v rs:=by
 obtain⟨a,cap,e,h⟩:=h
 refine⟨a,cap,e,fun i r hr=>?_⟩
 obtain⟨b,off,u,e1,h1,h2⟩:=h i r hr
 exact⟨b,off,u,e1,hb.ag h1 (by simp),h2.but hb⟩
theorem zcz.at {w:World} {q:Option Addr} {n cap:Nat} {rs:List (List (Int × Int))} (h:zcz w (.slice q n cap) rs) (i:Nat) (hi:i<n):∃ b off a c,q=some ⟨b,off,none⟩∧w.cell? ⟨b,off+i,none⟩=some (.slice a (rs[i]?.getD []).length c)∧zee w (.slice a (rs[i]?.getD []).length c) (rs[i]?.getD []):=by
 obtain⟨a,cap',e,h⟩:=h
 simp only[Value.slice.injEq] at e
 obtain⟨rfl,rfl,-⟩:=e
 obtain⟨b,off,u,e1,h1,h2⟩:=h i rs[i] (List.getElem?_eq_getElem hi)
 rw[List.getElem?_eq_getElem hi,Option.getD_some]
 obtain⟨a',c',rfl,h3,h4⟩:=id h2
 exact⟨b,off,a',c',e1,h1,h2⟩
structure zsu (w:World) (base:Nat) (u:Value) (fs:List Rat) (vs:List Value):Prop where
 own:w.ownsRow base 27 4 u fs.length (zcm vs)
 len:vs.length=fs.length
 val:∀ (i:Nat) (f:Rat),fs[i]? = some f→∃ s x y p,vs[i]? = some (Value.agg #[.bool s,.int .u64 x,.int .u64 y,.pointer p])∧∀ W,aq W (.agg #[.bool s,.int .u64 x,.int .u64 y,.pointer p]) f
theorem zsu.zme {w:World} {base:Nat} {u:Value} {fs:List Rat} {vs:List Value} (h:zsu w base u fs vs):au w u fs :=
 zsy.zme (base:=base) (e := 27) (vs:=vs) ⟨h.own,h.len,fun i f hf=>by
  obtain⟨s,x,y,p,h1,h2⟩:=h.val i f hf
  exact⟨s,x,y,p,h1,h2 w⟩⟩
theorem qqv {w:World} {b0 base:Nat} {u:Value} {fs:List Rat} {vs:List Value} (h:zsy w base 27 u fs vs) (lf:∀ f ∈ fs,Len f 1) (hb:b0≤base):zsu w b0 u fs vs :=
 ⟨zlk h.own hb,h.len,fun i f hf=>by
  obtain⟨s,x,y,p,h1,h2⟩:=h.val i f hf
  have hl:=(lf f (List.mem_of_getElem? hf)).lt
  rw[Nat.pow_one] at hl
  exact⟨s,x,y,p,h1,fun W=>ztt h2 hl.1 hl.2 W⟩⟩
theorem zsu.but {w w':World} {base:Nat} {u:Value} {fs:List Rat} {vs:List Value} (h:zsu w base u fs vs) (hb:But [] w w'):zsu w' base u fs vs:=⟨mg h.own hb,h.len,h.val⟩
theorem qef (w:World) (base:Nat) (v:Value) (k:Nat) (us:List Value) (hown:w.ownsRow base 62 1 v k us) (g:Nat) (a:Option Addr) (n c:Nat) (hc:w.cell? ⟨g,0,none⟩=some (.slice a n c)) (hk:k<1000000) (hb:base≤w.heap.size) :
  ∃ v' w',(Builtin.append_ #[67,67] 67 #[v,.slice (some ⟨g,0,none⟩) 1 1]).run prog w=.ok v' w'∧w'.ownsRow base 62 1 v' (k+1) (us++[.slice a n c])∧w.grownBy w' v.ownBlock:=by
 obtain⟨i0,hi,hz0,hz1,hz2⟩:=qnw
 obtain⟨v',w',hr,ho,hg,-⟩:=run_append_own (P:=prog) w base 67 67 62 i0 _ 1 24 underlying67 hi hz0 hz1 hz2 rfl (by decide) v k us hown ⟨g,0,none⟩ 1 1 [.slice a n c] rfl (fun j u hj=>by
   have:j=0∨1≤j:=by omega
   rcases this with rfl | h1
   ·simp at hj;subst hj;exact hc
   ·rw[List.getElem?_eq_none (by simpa using h1)] at hj;simp at hj) (fun u hu=>by
   simp only[List.mem_cons,List.not_mem_nil,or_false] at hu
   subst hu;rfl) (by unfold maxLen;omega) (by omega) hb
 exact⟨v',w',hr,ho,hg⟩
def zgb (rs:List (List (Int × Int))):List (List Rat):=rs.map fun r=>r.map qf
theorem ztk (q:Option Addr) (n cap:Nat) (rs:List (List (Int × Int))) (w:World) (hv:zcz w (.slice q n cap) rs) (hN:n=rs.length) (hn:n≤1000) (hl:∀ i,i<n→(rs[i]?.getD []).length≤1000) (hf:∀ r ∈ rs,∀ z ∈ r,Fits z) :
  Calls prog 22 #[.slice q n cap] w fun e w'=>∃ v,e=.returned v∧wu w' v (zgb rs)∧But [] w w':=by
 have hmem:∀ i,i<n→∀ z ∈ rs[i]?.getD [],Fits z:=fun i hi=>by
  rw[List.getElem?_eq_getElem (by omega),Option.getD_some]
  exact hf _ (List.getElem_mem _)
 have FS:Hid (∀ i,i<n→∀ W v,zee W v (rs[i]?.getD [])→Calls prog 66 #[v] W fun e w'=>∃ a c vs,e=.returned (.slice a (rs[i]?.getD []).length c)∧zsu w' W.heap.size (.slice a (rs[i]?.getD []).length c) ((rs[i]?.getD []).map qf) vs∧But [] W w'):=fun i hi W v hq=>by
  refine (zzf v _ W hq (hmem i hi) (hl i hi)).mono ?_
  rintro e w' ⟨v',vs,e1,h1,h2⟩
  obtain⟨a,c,hac⟩:=ownsRow_form h1.own
  rw[List.length_map] at hac
  subst hac
  refine⟨a,c,vs,e1,qqv h1 (fun f hf'=>?_) (Nat.le_refl _),h2⟩
  obtain⟨z,hz,rfl⟩:=List.mem_map.1 hf'
  obtain⟨-,-,-,h,-⟩:=zcl z (hmem i hi z hz)
  exact h
 have HV:=af hv
 have HN:=af hN
 clear hv hN hl hf hmem
 go_enter func22,ntmps22
 go_wp2
 go_loopw [3,8] (fun o iv wr=>∃ k:Nat,k≤n∧iv=.int .i64 (k:Int)∧Hid ((∃ us:List Value,wr.ownsRow w.heap.size 62 1 o k us∧∀ i,i<k→∃ u vs,us[i]? = some u∧zsu wr w.heap.size u ((rs[i]?.getD []).map qf) vs)∧But [] w wr)) (fun _ iv _=>n-(intOf iv).toNat)
 case atStart=>exact⟨0,Nat.zero_le _,rfl,⟨[],World.ownsRow_nil _ _ _ _,fun i hi=>absurd hi (by omega)⟩,But.refl _ _⟩
 case round =>
  obtain⟨k,hk,rfl,HI⟩:=hrel
  rename World=>wr
  by_cases hlt:k<n
  ·obtain⟨b,off,ak,ck,rfl,hck,hqk⟩:=((ae HV).but (ae HI).2).at k hlt
   have FK:=af (ae FS k hlt wr _ hqk)
   obtain⟨lk,hlk⟩:∃ lk,lk=(rs[k]?.getD []).length:=⟨_,rfl⟩
   rw[← hlk] at hck FK
   clear hqk hlk
   go_wp2_with fail
   refine (ae FK).mono ?_
   rintro e w1 ⟨a1,c1,vs,rfl,ho1,hb1⟩
   obtain⟨V,hV⟩:∃ V,V=w1.alloc (.cells #[.slice a1 lk c1] 62):=⟨_,rfl⟩
   have bV1:But [] w1 V:=by rw[hV];exact (But.refl _ _).alloc _
   have cc:V.cell? ⟨w1.heap.size,0,none⟩=some (.slice a1 lk c1):=by rw[hV];simp
   have bV:But [] wr V:=hb1.trans' bV1
   obtain⟨⟨us,hus,hall⟩,hbw⟩:=ae HI
   have oV:=mg hus bV
   obtain⟨v',w',hr,ho,hg⟩:=qef V w.heap.size u3 k us oV w1.heap.size a1 lk c1 cc (by omega) (hbw.trans' bV).size
   have BF:Hid (But [] w w'):=wo (hbw.trans' bV) oV (Nat.le_refl _) hg
   have keep:∀ (u:Value) (fs:List Rat) (vs:List Value),zsu V w.heap.size u fs vs→zsu w' w.heap.size u fs vs:=fun u fs vs h=>⟨h.own.kept hg (zar h.own oV (by decide)),h.len,h.val⟩
   have hul:us.length=k:=by have:=hus.1;omega
   have JJ:Hid ((∃ us:List Value,w'.ownsRow w.heap.size 62 1 v' (k+1) us∧∀ i,i<k+1→∃ u vs,us[i]? = some u∧zsu w' w.heap.size u ((rs[i]?.getD []).map qf) vs)∧But [] w w'):=by
    refine⟨⟨_,ho,fun i hi=>?_⟩,ae BF⟩
    by_cases e:i=k
    ·subst e
     refine⟨.slice a1 lk c1,vs,by rw[List.getElem?_append_right (by omega),hul,Nat.sub_self];rfl,keep _ _ _ ?_⟩
     have h1:=ho1.but bV1
     exact⟨zlk h1.own hbw.size,h1.len,h1.val⟩
    ·obtain⟨u,vs',h1,h2⟩:=hall i (by omega)
     exact⟨u,vs',by rw[List.getElem?_append_left (by omega)];exact h1,keep _ _ _ (h2.but bV)⟩
   rw[hV] at hr
   have HR:=af hr
   clear hr ho hg oV bV bV1 cc hV hus hall hbw ho1 hb1 keep HI hck FK BF hul
   go_wp2_with (at_builtin;refine qw rfl _ _ 67 67 rfl _ _ v' w' rfl rfl (ae HR) ?_)
   exact⟨⟨k+1,by omega,by go_num,ae JJ⟩,by simp[intOf];omega⟩
  ·obtain rfl:k=n:=by omega
   obtain⟨⟨us,hus,hall⟩,hbw⟩:=ae HI
   obtain⟨a',c',rfl⟩:=ownsRow_form hus
   have JJ:Hid (wu wr (.slice a' k c') (zgb rs)):=by
    have hlen:(zgb rs).length=k:=by unfold zgb;rw[List.length_map];exact (ae HN).symm
    have hcap:k≤c':=by
     rcases hus.2 with ⟨h1,h2⟩|⟨g,cap,cur,h1,-,-,h2,-⟩
     ·simp only[Value.slice.injEq] at h1
      omega
     ·simp only[Value.slice.injEq] at h1
      omega
    refine⟨a',c',by rw[hlen],by rw[hlen];exact hcap,fun i l hil=>?_⟩
    have hik:i<k:=by rw[← hlen];exact (List.getElem?_eq_some_iff.1 hil).1
    obtain⟨u,vs,h1,h2⟩:=hall i hik
    have hl:l=(rs[i]?.getD []).map qf:=by
     unfold zgb at hil
     rw[List.getElem?_map,List.getElem?_eq_getElem (by have:=ae HN;omega)] at hil
     rw[List.getElem?_eq_getElem (by have:=ae HN;omega),Option.getD_some]
     exact (Option.some.inj hil).symm
    rcases hus.2 with ⟨h3,h4⟩|⟨g,cap,cur,h3,-⟩
    ·omega
    ·simp only[Value.slice.injEq] at h3
     obtain⟨rfl,-,rfl⟩:=h3
     refine⟨g,0,u,rfl,?_,by rw[hl];exact h2.zme⟩
     have:=hus.cellAt i (by omega)
     rw[Nat.zero_add,this,h1]
   have JB:=af hbw
   clear hus hall hbw HI
   go_wp2
   go_ret
   exact⟨_,rfl,ae JJ,ae JB⟩
def zkb (rs:List (List (Int × Int))):Nat→Nat:=sgN (fun j=>(rs[j]?.getD []).length)
theorem qcs (f:Nat→Nat):∀ n k,k≤n→sgN f k≤sgN f n
 | 0,k,h=>by rw[show k=0 by omega];exact Nat.le_refl _
 | n+1,k,h=>by
  by_cases e:k=n+1
  ·rw[e];exact Nat.le_refl _
  ·exact Nat.le_trans (qcs f n k (by omega)) (Nat.le_add_right _ _)
theorem qjm (rs:List (List (Int × Int))) (n i:Nat) (hi:i<n):(rs[i]?.getD []).length≤zkb rs n:=by
 have h1:=qcs (fun j=>(rs[j]?.getD []).length) n (i+1) (by omega)
 have h2:sgN (fun j=>(rs[j]?.getD []).length) (i+1)=sgN (fun j=>(rs[j]?.getD []).length) i+(rs[i]?.getD []).length:=rfl
 unfold zkb
 omega
theorem qbt {H:Type}:∀ (l r:List (DataW H)),Rows.uptoBulkAll (l++r)=Rows.uptoBulkAll l+Rows.uptoBulkAll r
 | [],r=>by rw[List.nil_append,Rows.uptoBulkAll];omega
 | x::l,r=>by
  rw[List.cons_append,Rows.uptoBulkAll,Rows.uptoBulkAll,qbt l r];omega
theorem zso {H:Type} (f:Nat→DataW H) (g:Nat→Nat):∀ n,(∀ i,i<n→g i+1≤Rows.uptoBulk (f i))→sgN g n+n≤Rows.uptoBulkAll ((List.range n).map f)
 | 0,_=>Nat.zero_le _
 | n+1,h=>by
  have ih:=zso f g n (fun i hi=>h i (by omega))
  have hn:=h n (by omega)
  have e:sgN g (n+1)=sgN g n+g n:=rfl
  rw[List.range_succ,List.map_append,qbt,List.map_cons,List.map_nil,Rows.uptoBulkAll,Rows.uptoBulkAll]
  omega
theorem zqk:∀ n,sgN (fun _=>0) n=0
 | 0=>rfl
 | n+1=>by
  show sgN (fun _=>0) n+0=0
  rw[zqk n]
theorem zsp {H:Type} (l r:List (DataW H)) (n:Nat) (h:n≤Rows.uptoBulkAll l):n+1≤Rows.uptoBulk (.slice l r):=by
 rw[Rows.uptoBulk];omega
theorem qgu {H:Type} {enc:TypeId × Value→H} {W:World} {v:Value} {d:DataW H} {ps:List MemPlace} {fuel:Nat} (hf:DataW.trod enc prog W 0 (fun _=>true) true fuel 41 [v]=some (d,ps)) :
  ∃ qs:List (Int × Int),zee W v qs∧(∀ q ∈ qs,Fits q)∧(∀ x ∈ ps,x.block<W.heap.size)∧qs.length+1≤Rows.uptoBulk d:=by
 rcases Deep.open_slice_pairs underlying41 underlying23 znt rfl rfl zsn zsn hf with ⟨hc,hx⟩|⟨b,len,cap,m,k,V0,V1,D0,D1,P0,P1,hc,-,hl,hm,hmm,hx,hall⟩
 ·simp only[List.cons.injEq,and_true] at hc
  subst hc
  obtain⟨rfl,rfl⟩:=Prod.mk.inj hx
  exact⟨[],⟨none,0,rfl,Nat.le_refl _,fun i q hq=>by simp at hq⟩,fun q hq=>by simp at hq,fun x hx=>by simp at hx,by rw[Rows.uptoBulk];exact Nat.le_refl _⟩
 ·simp only[List.cons.injEq,and_true] at hc
  subst hc
  have hlm:len≤m:=by rw[hmm];simpa using hl
  have each:∀ i,i<m→∃ q:Int × Int,Fits q∧W.cell? ⟨b.block,b.off+i*2,none⟩=some (.int .i64 q.1)∧W.cell? ⟨b.block,b.off+i*2+1,none⟩=some (.int .i64 q.2)∧P0 i=[]∧P1 i=[]:=fun i hi=>by
   obtain⟨c0,c1,t0,t1⟩:=hall i hi
   obtain⟨x,e1,e2,w1⟩:=DataW.trod_int underlying3 t0
   obtain⟨y,f1,f2,w2⟩:=DataW.trod_int underlying3 t1
   simp only[List.cons.injEq,and_true] at e1 f1
   rw[(zcc b _ (zaf c0)).1,e1] at c0
   rw[(zcc b _ (zaf c1)).1,f1] at c1
   have Bx:=bounds_i64 w1
   have By:=bounds_i64 w2
   exact⟨(x,y),⟨by omega,by omega,by omega,by omega⟩,c0,c1,(Prod.mk.inj e2).2,(Prod.mk.inj f2).2⟩
  have hspot:0<m→b.spot=none:=fun h0=>by
   obtain⟨c0,-⟩:=hall 0 h0
   have:=(zcc b _ (zaf c0)).2
   simpa using this
  obtain⟨q,hq⟩:=Classical.axiomOfChoice (fun i:Nat=>(by
   by_cases hi:i<m
   ·obtain⟨q,h⟩:=each i hi
    exact⟨q,fun _=>h⟩
   ·exact⟨(0,0),fun h=>absurd h hi⟩:∃ q:Int × Int,i<m→Fits q∧W.cell? ⟨b.block,b.off+i*2,none⟩=some (.int .i64 q.1)∧W.cell? ⟨b.block,b.off+i*2+1,none⟩=some (.int .i64 q.2)∧P0 i=[]∧P1 i=[]))
  obtain⟨hd,hps⟩:=Prod.mk.inj hx
  refine⟨(List.range len).map q,⟨some b,cap,by simp,by simpa using hl,fun i z hz=>?_⟩,fun z hz=>?_,fun x hx'=>?_,?_⟩
  ·rw[List.getElem?_map] at hz
   by_cases hi:i<len
   ·rw[List.getElem?_range hi,Option.map_some] at hz
    obtain rfl:=Option.some.inj hz
    have hs:=hspot (by omega)
    refine⟨b.block,b.off,?_,(hq i (by omega)).2.1,(hq i (by omega)).2.2.1⟩
    cases b
    simp only at hs
    subst hs
    rfl
   ·rw[List.getElem?_eq_none (by simpa using hi)] at hz
    simp at hz
  ·obtain⟨i,hi,rfl⟩:=List.mem_map.1 hz
   exact (hq i (by have:=List.mem_range.1 hi;omega)).1
  ·rw[hps] at hx'
   have hfl:((List.range m).flatMap fun i=>P0 i++P1 i)=[]:=by
    rw[List.flatMap_eq_nil_iff]
    intro i hi
    have h:=hq i (List.mem_range.1 hi)
    rw[h.2.2.2.1,h.2.2.2.2]
    rfl
   rw[hfl,List.append_nil] at hx'
   rcases Nat.eq_zero_or_pos m with h0 | h0
   ·subst h0
    simp[MemPlace.row] at hx'
   ·have hb:b.block<W.heap.size:=by
     have h:=ai (hq 0 h0).2.1
     exact h
    have:x.block=b.block:=by
     unfold MemPlace.row at hx'
     obtain⟨i,-,rfl⟩:=List.mem_map.1 hx'
     rfl
    omega
  ·rw[hd]
   refine zsp _ _ _ ?_
   rw[List.length_map,List.length_range]
   have:=zso (fun i=>(.agg [D0 i,D1 i]:DataW H)) (fun _=>0) len (fun i _=>by rw[Rows.uptoBulk];omega)
   rw[zqk] at this
   omega
theorem cellsS:prog.cellsOf 41 = 1:=by kernel_rfl
theorem qql {H:Type} {enc:TypeId × Value→H} {W:World} {v:Value} {d:DataW H} {ps:List MemPlace} (hval:Value.okWide prog W .any 0 60 v) (h:DataW.Trod enc prog W 0 (fun _=>true) true 60 v d ps) :
  ∃ rs:List (List (Int × Int)),zcz W v rs∧(∀ r ∈ rs,∀ z ∈ r,Fits z)∧(∀ x ∈ ps,x.block<W.heap.size)∧rs.length+zkb rs rs.length+1≤Rows.uptoBulk d:=by
 obtain⟨a,len,cap,rfl⟩:=okWide_slice underlying60 hval
 obtain⟨fuel,hf⟩:=h
 rcases Deep.open_slice1 underlying60 cellsS hf with ⟨hc,hx⟩|⟨b,len',cap',m,k,V,D,Pl,hc,-,hl,-,hmm,hx,hall⟩
 ·have hc':[Value.slice a len cap]=[.slice none 0 0]:=hc
  simp only[List.cons.injEq,Value.slice.injEq,and_true] at hc'
  obtain⟨rfl,rfl,rfl⟩:=hc'
  obtain⟨rfl,rfl⟩:=Prod.mk.inj hx
  exact⟨[],⟨none,0,rfl,fun i q hq=>by simp at hq⟩,fun q hq=>by simp at hq,fun x hx=>by simp at hx,by rw[Rows.uptoBulk];exact Nat.le_refl _⟩
 ·have hc':[Value.slice a len cap]=[.slice (some b) len' cap']:=hc
  simp only[List.cons.injEq,Value.slice.injEq,and_true] at hc'
  obtain⟨rfl,rfl,rfl⟩:=hc'
  have hlm:len≤m:=by rw[hmm];simpa using hl
  have each:∀ i,i<m→∃ q:List (Int × Int),W.cell? ⟨b.block,b.off+i,none⟩=some (V i)∧zee W (V i) q∧(∀ z ∈ q,Fits z)∧(∀ x ∈ Pl i,x.block<W.heap.size)∧q.length+1≤Rows.uptoBulk (D i):=fun i hi=>by
   obtain⟨c0,t0⟩:=hall i hi
   obtain⟨q,h1,h2,h3,h4⟩:=qgu t0
   rw[(zcc b _ (zaf c0)).1] at c0
   exact⟨q,c0,h1,h2,h3,h4⟩
  have hspot:0<m→b.spot=none:=fun h0=>by
   obtain⟨c0,-⟩:=hall 0 h0
   have:=(zcc b _ (zaf c0)).2
   simpa using this
  obtain⟨q,hq⟩:=Classical.axiomOfChoice (fun i:Nat=>(by
   by_cases hi:i<m
   ·obtain⟨q,h⟩:=each i hi
    exact⟨q,fun _=>h⟩
   ·exact⟨[],fun h=>absurd h hi⟩:∃ q:List (Int × Int),i<m→W.cell? ⟨b.block,b.off+i,none⟩=some (V i)∧zee W (V i) q∧(∀ z ∈ q,Fits z)∧(∀ x ∈ Pl i,x.block<W.heap.size)∧q.length+1≤Rows.uptoBulk (D i)))
  obtain⟨hd,hps⟩:=Prod.mk.inj hx
  refine⟨(List.range len).map q,⟨some b,cap,by simp,fun i z hz=>?_⟩,fun r hr z hz=>?_,fun x hx'=>?_,?_⟩
  ·rw[List.getElem?_map] at hz
   by_cases hi:i<len
   ·rw[List.getElem?_range hi,Option.map_some] at hz
    obtain rfl:=Option.some.inj hz
    have hs:=hspot (by omega)
    refine⟨b.block,b.off,V i,?_,(hq i (by omega)).1,(hq i (by omega)).2.1⟩
    cases b
    simp only at hs
    subst hs
    rfl
   ·rw[List.getElem?_eq_none (by simpa using hi)] at hz
    simp at hz
  ·obtain⟨i,hi,rfl⟩:=List.mem_map.1 hr
   exact (hq i (by have:=List.mem_range.1 hi;omega)).2.2.1 z hz
  ·rw[hps] at hx'
   rcases List.mem_append.1 hx' with h1 | h1
   ·rcases Nat.eq_zero_or_pos m with h0 | h0
    ·subst h0
     simp[MemPlace.row] at h1
    ·have hb:b.block<W.heap.size:=by
      have h:=ai (hq 0 h0).1
      exact h
     have:x.block=b.block:=by
      unfold MemPlace.row at h1
      obtain⟨i,-,rfl⟩:=List.mem_map.1 h1
      rfl
     omega
   ·obtain⟨i,hi,hxi⟩:=List.mem_flatMap.1 h1
    exact (hq i (List.mem_range.1 hi)).2.2.2.1 x hxi
  ·rw[hd]
   have h1:=zso D (fun i=>(((List.range len).map q)[i]?.getD []).length) len (fun i hi=>by
    rw[List.getElem?_map,List.getElem?_range hi]
    exact (hq i (by omega)).2.2.2.2)
   refine zsp _ _ _ ?_
   rw[List.length_map,List.length_range]
   unfold zkb
   omega
theorem qkw (rs:List (List (Int × Int))) (hf:∀ r ∈ rs,∀ z ∈ r,Fits z) (i j:Nat) (hi:i<rs.length) (hj:j<((zgb rs)[i]?.getD []).length):Len (atR ((zgb rs)[i]?.getD []) j) 1:=by
 have e:(zgb rs)[i]?.getD []=rs[i].map qf:=by
  unfold zgb
  rw[List.getElem?_map,List.getElem?_eq_getElem hi];rfl
 rw[e] at hj ⊢
 rw[List.length_map] at hj
 unfold atR
 rw[List.getElem?_map,List.getElem?_eq_getElem hj]
 obtain⟨-,-,-,h,-⟩:=zcl rs[i][j] (hf _ (List.getElem_mem hi) _ (List.getElem_mem hj))
 exact h
end Go.Proofs.YtffghofheeleeaaGreatDoor
