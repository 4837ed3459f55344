/- The fractions of pairs, as the Go text o -/
import Derived.Test.YtagmkkiagjmimaaGreatDoorXT3r
namespace Go.Proofs.YtagmkkiagjmimaaGreatDoor
set_option linter.unusedVariables false
open Go.Proofs.Tryz
open Go.RowKit
set_option maxHeartbeats 8000000
set_option maxRecDepth 100000
theorem zrr (v:Value) (qs:List (Int × Int)) (w:World) (hq:zqg w v qs) (hf:∀ q ∈ qs,Fits q) (hn:qs.length≤1000) :
   Calls prog 80 #[v] w fun e w'=>∃ v' vs,e=.returned v'∧zwc w' w.heap.size 27 v' (qs.map qf) vs∧But [] w w':=by(
 obtain⟨a,cap,rfl,hcap,hc⟩:=hq
 obtain⟨R,X,Y,hV⟩:∃ (R:Nat→Bool) (X Y:Nat→Int),∀ i,i<qs.length→(∀ W,au W (.agg #[.bool (R i),.int .u64 (X i),.int .u64 (Y i),.pointer none]) (qf (qs[i]?.getD (0,0))))∧∀ W,Calls prog 9 #[.agg #[.int .i64 (qs[i]?.getD (0,0)).1,.int .i64 (qs[i]?.getD (0,0)).2]] W fun e w'=>e=.returned (.agg #[.bool (R i),.int .u64 (X i),.int .u64 (Y i),.pointer none])∧But [] W w':=by
  have h:∀ i,∃ t:Bool × Int × Int,i<qs.length→(∀ W,au W (.agg #[.bool t.1,.int .u64 t.2.1,.int .u64 t.2.2,.pointer none]) (qf (qs[i]?.getD (0,0))))∧∀ W,Calls prog 9 #[.agg #[.int .i64 (qs[i]?.getD (0,0)).1,.int .i64 (qs[i]?.getD (0,0)).2]] W fun e w'=>e=.returned (.agg #[.bool t.1,.int .u64 t.2.1,.int .u64 t.2.2,.pointer none])∧But [] W w':=fun i=>by
   by_cases hi:i<qs.length
   ·rw[List.getElem?_eq_getElem hi]
    obtain⟨r,x,y,-,h1,h2⟩:=znm qs[i] (hf _ (List.getElem_mem hi))
    exact⟨(r,x,y),fun _=>⟨h1,h2⟩⟩
   ·exact⟨(false,0,0),fun h=>absurd h hi⟩
  obtain⟨t,ht⟩:=Classical.axiomOfChoice h
  exact⟨fun i=>(t i).1,fun i=>(t i).2.1,fun i=>(t i).2.2,ht⟩
 have hcell:∀ i,i<qs.length→∃ b off,a=some ⟨b,off,none⟩∧w.cell? ⟨b,off+i*2,none⟩=some (.int .i64 (qs[i]?.getD (0,0)).1)∧w.cell? ⟨b,off+i*2+1,none⟩=some (.int .i64 (qs[i]?.getD (0,0)).2):=fun i hi=>by
  rw[List.getElem?_eq_getElem hi]
  exact hc i _ (List.getElem?_eq_getElem hi)
 have hmap:∀ i,(qs.map qf)[i]? = (qs[i]?).map qf:=fun i=>List.getElem?_map ..
 have HM:=af hmap
 have HC:=af hcell
 have HV:=af hV
 clear hmap hcell hV hc hf
 obtain⟨n,hnn⟩:∃ n,n=qs.length:=⟨_,rfl⟩
 have HN:=af hnn
 rw[← hnn] at hn hcap HC HV
 rw[← hnn]
 clear hnn
 go_enter func80,ntmps80
 go_wp2
 go_loopw [3,8] (fun o i wr=>∃ k:Nat,k≤n∧i=.int .i64 (k:Int)∧Hid (wr.ownsRow w.heap.size 27 4 o k (eu ((List.range k).map fun i=>.agg #[.bool (R i),.int .u64 (X i),.int .u64 (Y i),.pointer none]))∧But [] w wr)) (fun _ i _=>n-(intOf i).toNat)
 case atStart=>exact⟨0,Nat.zero_le _,rfl,World.ownsRow_nil _ _ _ _,But.refl _ _⟩
 case round =>(
 obtain⟨k,hk,rfl,HI⟩:=hrel
 rename World=>wr
 by_cases hlt:k<n
 ·(
 obtain⟨b,off,rfl,c0,c1⟩:=ae HC k hlt
 have c0':=(ae HI).2.ag c0 (by simp)
 have c1':=(ae HI).2.ag c1 (by simp)
 obtain⟨hva,hvb⟩:=ae HV k hlt
 have PF:=af hvb
 clear hva hvb c0 c1
 generalize (qs[k]?.getD (0,0)).1=q1 at *
 generalize (qs[k]?.getD (0,0)).2=q2 at *
 have ba:=(But.refl [] wr).alloc (.cells #[.int .i64 q1,.int .i64 q2] 23)
 have BA:=af ba
 clear ba
 go_wp2_with fail
 refine (ae PF _).mono ?_
 rintro e w1 ⟨rfl,hb1⟩
 have B1:Hid (But [] wr w1):=(ae BA).trans' hb1
 clear hb1
 obtain⟨V,hV⟩:∃ V,V=w1.alloc (.cells #[.bool (R k),.int .u64 (X k),.int .u64 (Y k),.pointer none] 27):=⟨_,rfl⟩
 have cc:P4 V w1.heap.size (R k) (X k) (Y k) none:=by rw[hV];exact⟨by simp,by simp,by simp,by simp⟩
 have bV:But [] wr V:=(ae B1).trans' (by rw[hV];exact (But.refl _ _).alloc _)
 have oV:=zai (ae HI).1 bV
 obtain⟨v',w',hr,ho,hg⟩:=zte V w.heap.size u3 k _ oV w1.heap.size _ _ _ _ cc (by omega) ((ae HI).2.trans' bV).size
 have BF:Hid (But [] w w'):=l9 ((ae HI).2.trans' bV) oV (Nat.le_refl _) hg
 have HO:=af ho
 rw[hV] at hr
 have HR:=af hr
 clear hr ho hg oV bV cc hV
 go_wp2_with (at_builtin;refine zw rfl _ _ 46 46 rfl _ _ v' w' rfl rfl (ae HR) ?_)
 refine⟨⟨k+1,by omega,by go_num,by rw[List.range_succ,List.map_append];exact ae HO,ae BF⟩,by simp[intOf];omega⟩)
 ·(
 obtain rfl:k=n:=by omega
 obtain⟨a',c',rfl⟩:=ownsRow_form (ae HI).1
 go_wp2
 go_ret
 have hlen:(qs.map qf).length=k:=by rw[List.length_map];exact (ae HN).symm
 refine⟨_,_,rfl,⟨by rw[hlen];exact (ae HI).1,by simp[hlen],fun i f hi=>?_⟩,(ae HI).2⟩
 have hik:i<k:=by rw[← hlen];exact (List.getElem?_eq_some_iff.1 hi).1
 refine⟨_,_,_,_,by rw[List.getElem?_map,List.getElem?_range hik];rfl,?_⟩
 have h1:=(ae HV i hik).1 wr
 rw[ae HM i] at hi
 cases hq:qs[i]? with
 | none=>rw[hq] at hi;simp at hi
 | some q =>
  rw[hq] at hi h1
  simp only[Option.map_some,Option.some.injEq] at hi
  rw[← hi]
  exact h1)))
end Go.Proofs.YtagmkkiagjmimaaGreatDoor
