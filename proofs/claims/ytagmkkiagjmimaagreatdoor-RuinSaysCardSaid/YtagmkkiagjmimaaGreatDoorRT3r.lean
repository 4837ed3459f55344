/- Rows of a call's own stay, and what is k -/
import Derived.Test.YtagmkkiagjmimaaGreatDoorRF8
import Derived.Test.YtagmkkiagjmimaaGreatDoorRHD
namespace Go.Proofs.YtagmkkiagjmimaaGreatDoor
open Go.Proofs.Tryz
open Go.RowKit
set_option maxHeartbeats 8000000
set_option maxRecDepth 100000
set_option linter.unusedVariables false
theorem ownsRow_form {w:World} {base:Nat} {e:TypeId} {size:Nat} {v:Value} {n:Nat} {xs:List Value} (h:w.ownsRow base e size v n xs):∃ a c,v=.slice a n c:=by(
rcases h.2 with ⟨rfl,h0⟩|⟨g,cap,cur,rfl,-⟩
·exact⟨none,0,by rw[h0]⟩
·exact⟨_,_,rfl⟩)
theorem ziy {w0 w w':World} {base:Nat} {e:TypeId} {size:Nat} {v:Value} {n:Nat} {xs:List Value} (h:But [] w0 w) (ho:w.ownsRow base e size v n xs) (hb:w0.heap.size≤base) (hg:w.grownBy w' v.ownBlock):But [] w0 w' :=
 ⟨hg.os.trans h.os,hg.tape.trans h.tape,hg.output.trans h.output,Nat.le_trans h.size hg.size,fun k hk _=>by
  rw[hg.block k (Nat.lt_of_lt_of_le hk h.size) (fun e=>by have:=(ho.lt k e.symm).1;omega)]
  exact h.block k hk (by simp)⟩
theorem zkj {w w':World} {base:Nat} {e:TypeId} {size:Nat} {v:Value} {n:Nat} {xs:List Value} (h:w.ownsRow base e size v n xs) (hb:But [] w w'):w'.ownsRow base e size v n xs :=
 h.kept (row:=none) ⟨hb.os,hb.tape,hb.output,hb.size,fun k hk _=>hb.block k hk (by simp)⟩ (by
  by_cases h0:v.ownBlock=none
  ·exact .inl h0
  ·exact .inr h0)
theorem zuq (v:Value) (qs:List (Int × Int)) (w:World) (hq:zwo w v qs) (hf:∀ q ∈ qs,Fits q) (hn:qs.length≤1000) :
  Calls prog 80 #[v] w fun e w'=>∃ v' vs,e=.returned v'∧zzg w' w.heap.size 27 v' (qs.map qf) vs∧But [] w w':=by(
obtain⟨a,cap,rfl,hcap,hc⟩:=hq
obtain⟨R,X,Y,hV⟩:∃ (R:Nat→Bool) (X Y:Nat→Int),∀ i,i<qs.length→(∀ W,am W (.agg #[.bool (R i),.int .u64 (X i),.int .u64 (Y i),.pointer none]) (qf (qs[i]?.getD (0,0))))∧∀ W,Calls prog 9 #[.agg #[.int .i64 (qs[i]?.getD (0,0)).1,.int .i64 (qs[i]?.getD (0,0)).2]] W fun e w'=>e=.returned (.agg #[.bool (R i),.int .u64 (X i),.int .u64 (Y i),.pointer none])∧But [] W w':=by
 have h:∀ i,∃ t:Bool × Int × Int,i<qs.length→(∀ W,am W (.agg #[.bool t.1,.int .u64 t.2.1,.int .u64 t.2.2,.pointer none]) (qf (qs[i]?.getD (0,0))))∧∀ W,Calls prog 9 #[.agg #[.int .i64 (qs[i]?.getD (0,0)).1,.int .i64 (qs[i]?.getD (0,0)).2]] W fun e w'=>e=.returned (.agg #[.bool t.1,.int .u64 t.2.1,.int .u64 t.2.2,.pointer none])∧But [] W w':=fun i=>by
  by_cases hi:i<qs.length
  ·rw[List.getElem?_eq_getElem hi]
   obtain⟨r,x,y,-,h1,h2⟩:=zjj qs[i] (hf _ (List.getElem_mem hi))
   exact⟨(r,x,y),fun _=>⟨h1,h2⟩⟩
  ·exact⟨(false,0,0),fun h=>absurd h hi⟩
 obtain⟨t,ht⟩:=Classical.axiomOfChoice h
 exact⟨fun i=>(t i).1,fun i=>(t i).2.1,fun i=>(t i).2.2,ht⟩
have hcell:∀ i,i<qs.length→∃ b off,a=some ⟨b,off,none⟩∧w.cell? ⟨b,off+i*2,none⟩=some (.int .i64 (qs[i]?.getD (0,0)).1)∧w.cell? ⟨b,off+i*2+1,none⟩=some (.int .i64 (qs[i]?.getD (0,0)).2):=fun i hi=>by
 rw[List.getElem?_eq_getElem hi]
 exact hc i _ (List.getElem?_eq_getElem hi)
have hmap:∀ i,(qs.map qf)[i]? = (qs[i]?).map qf:=fun i=>List.getElem?_map ..
have HM:=af hmap
have HC:=af hcell
have HV:=af hV
clear hmap hcell hV hc hf
obtain⟨n,hnn⟩:∃ n,n=qs.length:=⟨_,rfl⟩
have HN:=af hnn
rw[← hnn] at hn hcap HC HV
rw[← hnn]
clear hnn
go_enter func80,ntmps80
go_wp2
go_loopw [3,8] (fun o i wr=>∃ k:Nat,k≤n∧i=.int .i64 (k:Int)∧Hid (wr.ownsRow w.heap.size 27 4 o k (zbg ((List.range k).map fun i=>.agg #[.bool (R i),.int .u64 (X i),.int .u64 (Y i),.pointer none]))∧But [] w wr)) (fun _ i _=>n-(intOf i).toNat)
case atStart=>exact⟨0,Nat.zero_le _,rfl,World.ownsRow_nil _ _ _ _,But.refl _ _⟩
case round =>(
obtain⟨k,hk,rfl,HI⟩:=hrel
rename World=>wr
by_cases hlt:k<n
·(
obtain⟨b,off,rfl,c0,c1⟩:=ae HC k hlt
have c0':=(ae HI).2.ag c0 (by simp)
have c1':=(ae HI).2.ag c1 (by simp)
obtain⟨hva,hvb⟩:=ae HV k hlt
have PF:=af hvb
clear hva hvb c0 c1
generalize (qs[k]?.getD (0,0)).1=q1 at *
generalize (qs[k]?.getD (0,0)).2=q2 at *
have ba:=(But.refl [] wr).alloc (.cells #[.int .i64 q1,.int .i64 q2] 23)
have BA:=af ba
clear ba
go_wp2_with fail
refine (ae PF _).mono ?_
rintro e w1 ⟨rfl,hb1⟩
have B1:Hid (But [] wr w1):=(ae BA).trans' hb1
clear hb1
obtain⟨V,hV⟩:∃ V,V=w1.alloc (.cells #[.bool (R k),.int .u64 (X k),.int .u64 (Y k),.pointer none] 27):=⟨_,rfl⟩
have cc:P4 V w1.heap.size (R k) (X k) (Y k) none:=by rw[hV];exact⟨by simp,by simp,by simp,by simp⟩
have bV:But [] wr V:=(ae B1).trans' (by rw[hV];exact (But.refl _ _).alloc _)
have oV:=zkj (ae HI).1 bV
obtain⟨v',w',hr,ho,hg⟩:=zwl V w.heap.size u3 k _ oV w1.heap.size _ _ _ _ cc (by omega) ((ae HI).2.trans' bV).size
have BF:Hid (But [] w w'):=ziy ((ae HI).2.trans' bV) oV (Nat.le_refl _) hg
have HO:=af ho
rw[hV] at hr
have HR:=af hr
clear hr ho hg oV bV cc hV
go_wp2_with (at_builtin;refine jh rfl _ _ 46 46 rfl _ _ v' w' rfl rfl (ae HR) ?_)
refine⟨⟨k+1,by omega,by go_num,by rw[List.range_succ,List.map_append];exact ae HO,ae BF⟩,by simp[intOf];omega⟩)
·(
obtain rfl:k=n:=by omega
obtain⟨a',c',rfl⟩:=ownsRow_form (ae HI).1
go_wp2
go_ret
have hlen:(qs.map qf).length=k:=by rw[List.length_map];exact (ae HN).symm
refine⟨_,_,rfl,⟨by rw[hlen];exact (ae HI).1,by simp[hlen],fun i f hi=>?_⟩,(ae HI).2⟩
have hik:i<k:=by rw[← hlen];exact (List.getElem?_eq_some_iff.1 hi).1
refine⟨_,_,_,_,by rw[List.getElem?_map,List.getElem?_range hik];rfl,?_⟩
have h1:=(ae HV i hik).1 wr
rw[ae HM i] at hi
cases hq:qs[i]? with
| none=>rw[hq] at hi;simp at hi
| some q =>
 rw[hq] at hi h1
 simp only[Option.map_some,Option.some.injEq] at hi
 rw[← hi]
 exact h1)))
theorem zjq {a b:Nat} (h:a≤b):(wd 4294967296 a).length≤(wd 4294967296 b).length:=aj (by omega) _ _ (Nat.lt_of_le_of_lt h (ak (by omega) b _ (Nat.le_refl _)))
theorem qie (a b n:Nat) (ha:(wd 4294967296 a).length≤n) (hb:(wd 4294967296 b).length≤n):(wd 4294967296 (a+b)).length≤n+1:=by(
refine aj (by omega) _ _ ?_
have h1:=ak (B:=4294967296) (by omega) a n ha
have h2:=ak (B:=4294967296) (by omega) b n hb
rw[Nat.pow_succ]
omega)
theorem zee (x y:Int) (n:Nat) (hx:(wd 4294967296 x.natAbs).length≤n) (hy:(wd 4294967296 y.natAbs).length≤n):(wd 4294967296 (x+y).natAbs).length≤n+1 :=
 Nat.le_trans (zjq (Int.natAbs_add_le x y)) (qie _ _ n hx hy)
theorem zsh (f:Rat) (p q:Int) (n:Nat) (hq:q≠0) (h:f.num*q=p*(f.den:Int)) (hp:(wd 4294967296 p.natAbs).length≤n) (hl:(wd 4294967296 q.natAbs).length≤n):ja f n:=by(
obtain⟨e1,e2⟩:=zht p q hq f h
constructor
·(
have h1:f.num.natAbs=p.natAbs/Nat.gcd p.natAbs q.natAbs:=by
 rw[e1,zuh]
 split <;> simp
rw[h1]
exact Nat.le_trans (zjq (Nat.div_le_self _ _)) hp)
·(
have h2:f.den=q.natAbs/Nat.gcd p.natAbs q.natAbs:=by
 have:=e2
 rw[zer] at this
 omega
rw[h2]
exact Nat.le_trans (zjq (Nat.div_le_self _ _)) hl))
theorem ja.mono {f:Rat} {m n:Nat} (h:ja f m) (hmn:m≤n):ja f n:=⟨Nat.le_trans h.1 hmn,Nat.le_trans h.2 hmn⟩
theorem zhd (f g:Rat):(f+g).num*((f.den:Int)*(g.den:Int))=(f.num*(g.den:Int)+g.num*(f.den:Int))*((f+g).den:Int):=by
 have h:=zqh f g
 grind
theorem j6 (x y:Int) (m n:Nat) (hx:(wd 4294967296 x.natAbs).length≤m) (hy:(wd 4294967296 y.natAbs).length≤n):(wd 4294967296 (x*y).natAbs).length≤m+n:=by(
rw[Int.natAbs_mul]
have:=znl x.natAbs y.natAbs
omega)
theorem ja.mul {f g:Rat} {m n:Nat} (hf:ja f m) (hg:ja g n):ja (f*g) (m+n):=by(
have hfd:0<f.den:=Nat.pos_of_ne_zero f.den_nz
have hgd:0<g.den:=Nat.pos_of_ne_zero g.den_nz
have hc:=zbx f g
rw[Int.natCast_mul] at hc
exact zsh _ _ _ _ (Int.mul_ne_zero (by omega) (by omega)) hc (j6 _ _ _ _ hf.1 hg.1) (j6 _ _ _ _ (by rw[Int.natAbs_natCast];exact hf.2) (by rw[Int.natAbs_natCast];exact hg.2)))
theorem ja.add {f g:Rat} {m n:Nat} (hf:ja f m) (hg:ja g n):ja (f+g) (m+n+1):=by(
have hfd:0<f.den:=Nat.pos_of_ne_zero f.den_nz
have hgd:0<g.den:=Nat.pos_of_ne_zero g.den_nz
have d1:(wd 4294967296 ((f.den:Nat):Int).natAbs).length≤m:=by rw[Int.natAbs_natCast];exact hf.2
have d2:(wd 4294967296 ((g.den:Nat):Int).natAbs).length≤n:=by rw[Int.natAbs_natCast];exact hg.2
refine zsh _ _ _ _ (Int.mul_ne_zero (by omega) (by omega)) (zhd f g) (zee _ _ _ (j6 _ _ _ _ hf.1 d2) ?_) (Nat.le_succ_of_le (j6 _ _ _ _ d1 d2))
rw[Nat.add_comm m n]
exact j6 _ _ _ _ hg.1 d1)
theorem zxt (xb yb:Nat) (f g:Rat) (w:World) (hx:zi w xb f) (hy:zi w yb g) (lf:ja f 2000000) (lg:ja g 2000000) :
  Calls prog 82 #[.pointer (some ⟨xb,0,none⟩),.pointer (some ⟨yb,0,none⟩)] w fun e w'=>∃ zb,e=.returned (.pointer (some ⟨zb,0,none⟩))∧But [] w w'∧zi w' zb (f+g)∧w.heap.size≤zb:=by(
have hfd:0<f.den:=Nat.pos_of_ne_zero f.den_nz
have hgd:0<g.den:=Nat.pos_of_ne_zero g.den_nz
have hQ0:(f.den:Int)*(g.den:Int)≠0:=Int.mul_ne_zero (by omega) (by omega)
obtain⟨e1,e2⟩:=zht (f.num*(g.den:Int)+g.num*(f.den:Int)) ((f.den:Int)*(g.den:Int)) hQ0 (f+g) (zhd f g)
obtain⟨W0,hW0⟩:∃ W0,W0=w.alloc (.cells #[.bool false,.slice none 0 0,.bool false,.slice none 0 0] 113):=⟨_,rfl⟩
have hs:=zfa w 113
have hbw:But [] w W0:=by rw[hW0];exact (But.refl _ _).alloc _
rw[← hW0] at hs
obtain⟨lf1,lf2⟩:=lf
obtain⟨lg1,lg2⟩:=lg
have d1:(wd 4294967296 ((f.den:Nat):Int).natAbs).length≤2000000:=by rw[Int.natAbs_natCast];exact lf2
have d2:(wd 4294967296 ((g.den:Nat):Int).natAbs).length≤2000000:=by rw[Int.natAbs_natCast];exact lg2
have p1:=j6 f.num (g.den:Int) _ _ lf1 d2
have p2:=j6 g.num (f.den:Int) _ _ lg1 d1
have p3:=j6 (f.den:Int) (g.den:Int) _ _ d1 d2
have p4:=zee _ _ _ p1 p2
have MU:=af (zuk w.heap.size xb yb f.num g.num f.den g.den W0 hs.1 hs.2 (qd.but hx hbw) (qd.but hy hbw) hfd hgd (by omega) (by omega) (by omega) (by omega) _ _ _ _ rfl rfl rfl rfl (by omega) (by omega) (by omega) (by omega) hQ0 (f+g).num ((f+g).den:Int) e1 e2)
have HW0:=af hW0
have HBW:=af hbw
clear hW0 hbw hs e1 e2 hQ0 p1 p2 p3 p4 d1 d2 lf1 lf2 lg1 lg2 hx hy hfd hgd
go_enter func82,ntmps82
go_wp2_with fail
rw[← ae HW0]
refine (ae MU).mono ?_
rintro e w1 ⟨rfl,h1,h2⟩
have FIN:=af (And.intro ((ae HBW).trans h1 (by simp)) h2)
clear h1 h2 MU
go_wp2
go_ret
exact⟨w.heap.size,rfl,(ae FIN).1,(ae FIN).2,Nat.le_refl _⟩)
theorem zjo {f:Rat} {m:Nat} (h:ja f m):∀ n,ja (zcb f n) (m*n+1)
 | 0=>⟨by show (wd 4294967296 1).length≤_;exact Nat.le_trans (aj (B:=4294967296) (by omega) 1 1 (by omega)) (by omega),by show (wd 4294967296 1).length≤_;exact Nat.le_trans (aj (B:=4294967296) (by omega) 1 1 (by omega)) (by omega)⟩
 | n+1=>((zjo h n).mul h).mono (by rw[Nat.mul_succ];omega)
theorem zys (x y:Int):-1≤nk x y∧nk x y≤1:=by(
unfold nk
split
·omega
·split <;> omega)
theorem qjh (n:Int):(nk n 1==0)=decide (n=1):=by(
unfold nk
by_cases h1:n<1
·rw[if_pos h1,decide_eq_false (by omega)];rfl
·by_cases h2:n=1
 ·rw[if_neg h1,if_pos h2,decide_eq_true h2];rfl
 ·rw[if_neg h1,if_neg h2,decide_eq_false h2];rfl)
theorem zoq (xb:Nat) (x:Int) (nx:Nat) (w:World) (hx:qd w xb x (nx:Int)) (hnx:0<nx) (hnxl:(wd 4294967296 nx).length<8388608) :
  Calls prog 145 #[.pointer (some ⟨xb,0,none⟩)] w fun e w'=>e=.returned (.bool (decide (nx=1)))∧But [] w w':=by(
have DX:=af (ou xb x nx w hx hnx)
have one:(wd 4294967296 (1:Int).natAbs).length<2147483648:=by
 have:=bf 1 (by omega)
 simpa using Nat.lt_of_le_of_lt this (by omega)
have CM:=af (fun W b (h1:za W xb 2 (nx:Int)) (h2:za W b 0 1)=>zcv xb 2 b 0 (nx:Int) 1 W h1 h2 (by rw[Int.natAbs_natCast];omega) one)
obtain⟨c1,c2⟩:=zys (nx:Int) 1
have hc:Hid ((nk (nx:Int) 1==0)=decide (nx=1)):=by
 show _=_
 rw[qjh]
 exact decide_eq_decide.2 (by omega)
generalize nk (nx:Int) 1=cd at CM c1 c2 hc
clear one
go_enter func145,ntmps145
go_wp2_with fail
refine (ae DX).mono ?_
rintro e w1 ⟨rfl,hw⟩
obtain rfl:=hw.symm
clear hw
go_wp2_with fail
refine (zah 1 _ (by omega) (by omega)).mono ?_
rintro e w2 ⟨rfl,B2,I2,S2⟩
go_wp2_with fail
refine (ae CM _ _ (hx.low.but B2) I2).mono ?_
rintro e w3 ⟨rfl,q,rfl⟩
clear CM DX
go_wp2
go_ret
exact⟨by rw[← ae hc];rfl,B2.drewN _⟩)
def zcf (z:Int):List UInt8:=if z<0 then 45::Lib.decDigits z.natAbs else Lib.decDigits z.natAbs
theorem qca {w:World} {base:Nat} {e:TypeId} {v:Value} {ds:List UInt8} (h:w.ownsRow base e 1 v (ds.length+1) (ds.map u8v++[.int .u8 45])) :
  ∃ g cap,v=.slice (some ⟨g,0,none⟩) (ds.length+1) cap∧base≤g∧ds.length+1≤cap∧Row .u8 w g ((ds++[45]).map UInt8.toNat):=by(
have h':w.ownsRow base e 1 v (ds++[45]).length ((ds++[45]).map u8v):=by rw[List.length_append,List.map_append];exact h
have h2:=zdk h' (by simp)
rw[List.length_append] at h2
exact h2)
theorem zti (z:Int) (hz:z≠0) (ds:List UInt8) (h:vw z.natAbs=ds):zcf z=(if z<0 then ds++[45] else ds).reverse:=by
 rw[zcf,← zhu _ (by omega),h]
 split <;> simp
structure qlu (w:World) (n m:Nat) (ds:List UInt8) (vb va:Value) (wr:World):Prop where
 words:Sl .u32 wr va (wd 4294967296 m)
 own:wr.ownsRow w.heap.size 5 1 vb ds.length (ds.map u8v)
 but:But [] w wr
 dig:vw n=ds++vw m
 len:(wd 4294967296 m).length<1073741824
theorem zvl (b o:Nat) (z:Int) (w:World) (h:za w b o z) (hz:z≠0) (hl:(wd 4294967296 z.natAbs).length<1073741824) (hd:(vw z.natAbs).length<1073741824) (t:ByteArray) (ht:Hid (t=⟨(zcf z).toArray⟩)) :
  Calls prog 192 #[.pointer (some ⟨b,o,none⟩),.int .i64 10] w fun e w'=>e=.returned (.string t)∧But [] w w':=by(
obtain⟨b0,vb,b1,hvb⟩:=h
obtain⟨i0,hi,hz0,hz1,hz2⟩:=zls
have hvb':=hvb
obtain⟨a,cap,rfl,-,-⟩:=hvb'
have n0:(((wd 4294967296 z.natAbs).length:Int)==0)=false:=by
 have:=ze (B:=4294967296) (by omega) z.natAbs
 simp;intro h;simp[h] at this;omega
have HV:=af hvb
have HL:=af hl
clear hvb hl
generalize (wd 4294967296 z.natAbs).length=l at n0 b1 HV
go_enter func192,ntmps192
go_wp2_with fail
refine (zes _ _ _ (ae HV) (by have:=ae HL;omega)).mono ?_
rintro e w1 ⟨v1,rfl,hv1,hb1,-⟩
have B0:=hb1.ag b0 (by simp)
go_wp2
go_loopg [5,6,7] z.natAbs (fun m vb va vr wr=>∃ ds:List UInt8,qlu w z.natAbs m ds vb va wr)
case atStart=>exact⟨[],⟨hv1,World.ownsRow_nil _ _ _ _,hb1,rfl,ae HL⟩⟩
case round =>(
obtain⟨ds,hI⟩:=hrel
have hlz:=ze (B:=4294967296) (by omega) gk
obtain⟨hsl,hown,hbut,hdig,hlen⟩:=hI
have hsl':=hsl
obtain⟨aa,ca,rfl,-,-⟩:=hsl'
have hdl:ds.length<1073741824:=by have:=congrArg List.length hdig;rw[List.length_append] at this;omega
generalize hla:(wd 4294967296 gk).length=la at *
by_cases hm:gk=0
·(
have:la=0:=by omega
subst this
subst hm
rw[rf,List.append_nil] at hdig
have hn0:0<ds.length:=by
 rw[← hdig,ui (by omega)];simp
have c0:=hbut.ag b0 (by simp)
have HDG:=af hdig
clear hdig hla hlen hsl hlz
by_cases hneg:z<0
·(
rw[decide_eq_true hneg] at c0
have HT:Hid (t=⟨(ds++[45]).reverse.toArray⟩):=by show _=_;rw[ae ht,zti z hz ds (ae HDG),if_pos hneg]
go_wp2_with (at_builtin;refine wpList_append_own _ rfl _ _ 185 rfl w.heap.size 5 i0 (.int .u8 0) 1 1 underlying185 hi hz0 hz1 hz2 rfl (by decide) _ _ _ rfl (hown.alloc _) ⟨wr.heap.size,0,none⟩ 1 1 [_] rfl rfl (cell_one_new _ _ _) (by intro u hu;simp at hu;subst hu;rfl) (by unfold maxLen;omega) (by omega) (by have:=hbut.size;simp;omega) ?_;intro v3 w3 hown3 hgrow3 hnil3;have hBW:But [] w w3:=(hbut.alloc _).grown hgrow3 (fun k hk=>(hown.lt k hk).1);obtain⟨g,cg,rfl,hg,hcg,hrow⟩:=qca hown3;clear hown3 hgrow3 hnil3)
go_loopw [8,9,10] (fun i j x wq=>∃ (k q:Nat) (cs:List Nat),i=.int .i64 k∧j=.int .i64 q∧k≤q+1∧Hid (k+q+1=ds.length+1∧zai ((ds++[45]).map UInt8.toNat) cs k∧Row .u8 wq g cs∧But [] w wq)) (fun i _ _ _=>ds.length+1-(intOf i).toNat)
case atStart=>exact⟨0,ds.length+1-1,(ds++[45]).map UInt8.toNat,rfl,by congr 1 <;> omega,by omega,by omega,zai.start _,hrow,hBW⟩
case round =>(
obtain⟨k,q,cs,rfl,rfl,hkq,HJ⟩:=hrel
rename World=>wq
have hbl:((ds++[45]).map UInt8.toNat).length=ds.length+1:=by simp
have hcl:cs.length=ds.length+1:=by rw[(ae HJ).2.1.len,hbl]
have hsum:=(ae HJ).1
by_cases hlt:k<q
·(
obtain⟨ck,fk⟩:=(ae HJ).2.2.1 k (by omega)
obtain⟨cq,fq⟩:=(ae HJ).2.2.1 q (by omega)
have ST:=af ((ae HJ).2.1.step (by rw[hbl];omega))
have hq:q=ds.length+1-1-k:=by omega
rw[hbl,← hq] at ST
have HC:=af hcl
have HS:=af hsum
have ne1:k≠q:=by omega
have hk1:k<ds.length+1:=by omega
have hq1:q<ds.length+1:=by omega
clear hcl hbl hsum hq
generalize hx:cs[k]?.getD 0=x at *
generalize hy:cs[q]?.getD 0=y at *
clear hx hy
go_wp2
refine⟨⟨k+1,q-1,(cs.set k y).set q x,by go_num,by rw[Int.ofNat_sub (by omega)];rfl,by omega,by have:=ae HS;omega,ae ST,((ae HJ).2.2.1.set k (by rw[ae HC];have:=ae HS;omega) y).set q (by rw[List.length_set,ae HC];have:=ae HS;omega) x,((ae HJ).2.2.2.setCell (.inr hg) _).setCell (.inr hg) _⟩,?_⟩
have:=ae HS
simp[intOf];omega)
·(
have hfin:cs=((ds++[45]).map UInt8.toNat).reverse:=(ae HJ).2.1.fin (by rw[hbl];omega)
have hcv:=run_convert_bytes_back (P:=prog) wq 185 9 5 ⟨g,0,none⟩ cg (ds++[45]).reverse underlying185 underlying5 underlying9 (fun j hj=>by
 have h1:=((ae HJ).2.2.1 j (by rw[hcl];simpa using hj)).1
 rw[hfin,← List.map_reverse,List.getElem?_map,List.getElem?_eq_getElem hj] at h1
 have e:(⟨g,0,none⟩:Addr).add j=⟨g,j,none⟩:=by by_cases h:j=0 <;> simp[Addr.add,h]
 rw[e];exact h1)
rw[← ae HT] at hcv
simp only[List.length_reverse,List.length_append,List.length_cons,List.length_nil,Nat.zero_add] at hcv
have HB:=af (ae HJ).2.2.2
clear hcl hbl hfin hsum HJ
go_wp2
go_ret
exact⟨rfl,ae HB⟩)))
·(
rw[decide_eq_false hneg] at c0
have HT:Hid (t=⟨ds.reverse.toArray⟩):=by show _=_;rw[ae ht,zti z hz ds (ae HDG),if_neg hneg]
obtain⟨g,cg,rfl,hg,hcg,hrow⟩:=zdk hown hn0
have hBW:=hbut
go_wp2
go_loopw [8,9,10] (fun i j x wq=>∃ (k q:Nat) (cs:List Nat),i=.int .i64 k∧j=.int .i64 q∧k≤q+1∧Hid (k+q+1=ds.length∧zai ((ds).map UInt8.toNat) cs k∧Row .u8 wq g cs∧But [] w wq)) (fun i _ _ _=>ds.length-(intOf i).toNat)
case atStart=>exact⟨0,ds.length-1,(ds).map UInt8.toNat,rfl,by congr 1 <;> omega,by omega,by omega,zai.start _,hrow,hBW⟩
case round =>(
obtain⟨k,q,cs,rfl,rfl,hkq,HJ⟩:=hrel
rename World=>wq
have hbl:((ds).map UInt8.toNat).length=ds.length:=by simp
have hcl:cs.length=ds.length:=by rw[(ae HJ).2.1.len,hbl]
have hsum:=(ae HJ).1
by_cases hlt:k<q
·(
obtain⟨ck,fk⟩:=(ae HJ).2.2.1 k (by omega)
obtain⟨cq,fq⟩:=(ae HJ).2.2.1 q (by omega)
have ST:=af ((ae HJ).2.1.step (by rw[hbl];omega))
have hq:q=ds.length-1-k:=by omega
rw[hbl,← hq] at ST
have HC:=af hcl
have HS:=af hsum
have ne1:k≠q:=by omega
have hk1:k<ds.length:=by omega
have hq1:q<ds.length:=by omega
clear hcl hbl hsum hq
generalize hx:cs[k]?.getD 0=x at *
generalize hy:cs[q]?.getD 0=y at *
clear hx hy
go_wp2
refine⟨⟨k+1,q-1,(cs.set k y).set q x,by go_num,by rw[Int.ofNat_sub (by omega)];rfl,by omega,by have:=ae HS;omega,ae ST,((ae HJ).2.2.1.set k (by rw[ae HC];have:=ae HS;omega) y).set q (by rw[List.length_set,ae HC];have:=ae HS;omega) x,((ae HJ).2.2.2.setCell (.inr hg) _).setCell (.inr hg) _⟩,?_⟩
have:=ae HS
simp[intOf];omega)
·(
have hfin:cs=((ds).map UInt8.toNat).reverse:=(ae HJ).2.1.fin (by rw[hbl];omega)
have hcv:=run_convert_bytes_back (P:=prog) wq 185 9 5 ⟨g,0,none⟩ cg (ds).reverse underlying185 underlying5 underlying9 (fun j hj=>by
 have h1:=((ae HJ).2.2.1 j (by rw[hcl];simpa using hj)).1
 rw[hfin,← List.map_reverse,List.getElem?_map,List.getElem?_eq_getElem hj] at h1
 have e:(⟨g,0,none⟩:Addr).add j=⟨g,j,none⟩:=by by_cases h:j=0 <;> simp[Addr.add,h]
 rw[e];exact h1)
rw[← ae HT] at hcv
rw[List.length_reverse] at hcv
have HB:=af (ae HJ).2.2.2
clear hcl hbl hfin hsum HJ
go_wp2
go_ret
exact⟨rfl,ae HB⟩))))
·(
have hla0:0<la:=by omega
have HA:=af hla
have HDG:=af hdig
clear hla hdig hlz
go_wp2_with fail
refine (zmi _ gk 10 _ hsl (by omega) (by omega) (by rw[ae HA];exact hlen)).mono ?_
rintro e w2 ⟨v2,rfl,hv2,hb2,hfr⟩
have hr10:gk%10<10:=Nat.mod_lt _ (by omega)
generalize hrr:gk%10=r at *
have HR:=af hrr
clear hrr
have hown2:=zav hown hb2
go_wp2_with (at_builtin;refine wpList_append_own _ rfl _ _ 185 rfl w.heap.size 5 i0 (.int .u8 0) 1 1 underlying185 hi hz0 hz1 hz2 rfl (by decide) _ _ _ rfl (hown2.alloc _) ⟨w2.heap.size,0,none⟩ 1 1 [_] rfl rfl (cell_one_new _ _ _) (by intro u hu;simp at hu;subst hu;rfl) (by unfold maxLen;omega) (by omega) (by have:=hbut.size;have:=hb2.size;simp;omega) ?_;intro v3 w3 hown3 hgrow3 hnil3)
go_roundg (gk/10)
case measure=>exact Nat.div_lt_self (by omega) (by omega)
case rel =>(
refine⟨ds++[UInt8.ofNat (48+r)],qfd hv2 hgrow3 (fun k hk=>(hown.lt k hk).2) hfr,?_,((hbut.trans' hb2).alloc _).grown hgrow3 (fun k hk=>(hown.lt k hk).1),?_,?_⟩
·rw[List.length_append,List.map_append]
 rw[zjb r hr10] at hown3
 exact hown3
·rw[ae HDG,ui (by omega),ae HR,List.append_assoc];rfl
·have h1:=ak (B:=4294967296) (by omega) gk _ (Nat.le_refl _)
 have h2:=aj (B:=4294967296) (by omega) (gk/10) _ (Nat.lt_of_le_of_lt (Nat.div_le_self _ _) h1)
 rw[ae HA] at h2
 omega))))
theorem zvm (b o:Nat) (z:Int) (w:World) (h:za w b o z) (hl:(wd 4294967296 z.natAbs).length<1073741824) (hd:(vw z.natAbs).length<1073741824) (t:ByteArray) (ht:Hid (t=⟨(zcf z).toArray⟩)) :
  Calls prog 192 #[.pointer (some ⟨b,o,none⟩),.int .i64 10] w fun e w'=>e=.returned (.string t)∧But [] w w':=by(
by_cases hz:z=0
·(
subst hz
obtain⟨b0,vb,b1,hvb⟩:=h
simp only[Int.natAbs_zero,zh] at hvb
obtain⟨a,cap,rfl,-,-⟩:=hvb
have e:Hid (t=⟨#[48]⟩):=by
 show _=_
 rw[ae ht]
 have:zcf 0=[48]:=by rw[zcf,if_neg (by omega),Int.natAbs_zero,Lib.decDigits,dif_pos (by omega)];rfl
 rw[this]
clear ht hl hd b0
go_enter func192,ntmps192
go_wp2
go_ret
exact⟨by rw[ae e];rfl,But.refl _ _⟩)
·exact zvl b o z w h hz hl hd t ht)
theorem zdg (b o:Nat) (z:Int) (w:World) (h:za w b o z) (hl:(wd 4294967296 z.natAbs).length<1073741824) (hd:(vw z.natAbs).length<1073741824) (t:ByteArray) (ht:Hid (t=⟨(zcf z).toArray⟩)) :
  Calls prog 146 #[.pointer (some ⟨b,o,none⟩)] w fun e w'=>e=.returned (.string t)∧But [] w w':=by(
go_enter func146,ntmps146
go_wp2_with fail
refine (zvm b o z _ h hl hd t ht).mono ?_
rintro e w1 ⟨rfl,hb⟩
go_wp2
go_ret
exact⟨rfl,hb⟩)
def zjh (p:Int) (n:Nat):ByteArray:=if n=1 then ⟨(zcf p).toArray⟩ else ⟨(zcf p).toArray⟩++⟨#[47]⟩++⟨(zcf n).toArray⟩
theorem ziv (X n:Nat) (h:(wd 4294967296 X).length≤n):(vw X).length≤10*n:=by(
refine zcn X _ ?_
have h1:=ak (B:=4294967296) (by omega) X n h
refine Nat.lt_of_lt_of_le h1 ?_
rw[Nat.pow_mul]
exact Nat.pow_le_pow_left (by omega) n)
theorem zwe (z:Int) (n:Nat) (h:(wd 4294967296 z.natAbs).length≤n):(zcf z).length≤10*n+2:=by(
have hd:(Lib.decDigits z.natAbs).length≤10*n+1:=by
 rcases Nat.eq_zero_or_pos z.natAbs with h0 | h0
 ·rw[h0,Lib.decDigits_length,Lib.nDigits_small (by omega)];omega
 ·rw[← zhu _ h0,List.length_reverse]
  have:=ziv z.natAbs n h
  omega
unfold zcf
split
·rw[List.length_cons];omega
·omega)
theorem zop (b:Nat) (p:Int) (n:Nat) (w:World) (h:qd w b p n) (hn0:0<n) (hp:(wd 4294967296 p.natAbs).length≤4000000) (hn:(wd 4294967296 n).length≤4000000) (t:ByteArray) (ht:Hid (t=⟨(zcf p).toArray⟩++⟨#[47]⟩++⟨(zcf n).toArray⟩)) :
  Calls prog 147 #[.pointer (some ⟨b,0,none⟩)] w fun e w'=>e=.returned (.string t)∧But [] w w':=by(
obtain⟨tp,htp⟩:∃ tp:ByteArray,tp=⟨(zcf p).toArray⟩:=⟨_,rfl⟩
obtain⟨tn,htn⟩:∃ tn:ByteArray,tn=⟨(zcf n).toArray⟩:=⟨_,rfl⟩
have sp:tp.size≤40000002:=by rw[htp];exact zwe p 4000000 hp
have sn:tn.size≤40000002:=by rw[htn];exact zwe n 4000000 (by rw[Int.natAbs_natCast];exact hn)
rw[← htp,← htn] at ht
have S1:=af (fun W (h:qd W b p n)=>zdg b 0 p W h.up (by omega) (by have:=ziv p.natAbs _ hp;omega) tp htp)
have S2:=af (fun W (h:qd W b p n)=>zdg b 2 n W h.low (by rw[Int.natAbs_natCast];omega) (by rw[Int.natAbs_natCast];have:=ziv n _ hn;omega) tn htn)
clear htp htn hp hn
go_enter func147,ntmps147
go_wp2_with fail
refine (ae S1 _ h).mono ?_
rintro e w1 ⟨rfl,B1⟩
go_wp2_with fail
refine (ou b p n _ (h.but B1) hn0).mono ?_
rintro e w2 ⟨rfl,hw⟩
obtain rfl:=hw.symm
clear hw
go_wp2_with fail
refine (ae S2 _ (h.but B1)).mono ?_
rintro e w2 ⟨rfl,B2⟩
go_wp2
go_ret
exact⟨by rw[ae ht];rfl,B1.trans' B2⟩)
theorem zji (b:Nat) (p:Int) (n:Nat) (w:World) (h:qd w b p n) (hn0:0<n) (hp:(wd 4294967296 p.natAbs).length≤4000000) (hn:(wd 4294967296 n).length≤4000000) (t:ByteArray) (ht:Hid (t=zjh p n)) :
  Calls prog 65 #[.pointer (some ⟨b,0,none⟩)] w fun e w'=>e=.returned (.string t)∧But [] w w':=by(
have IS:=af (zoq b p n w h hn0 (by omega))
by_cases h1:n=1
·(
have e1:Hid (t=⟨(zcf p).toArray⟩):=by show _=_;rw[ae ht,zjh,if_pos h1]
rw[decide_eq_true h1] at IS
have S1:=af (fun W (h:qd W b p n)=>zdg b 0 p W h.up (by omega) (by have:=ziv p.natAbs _ hp;omega) t e1)
clear ht hp hn h1
go_enter func65,ntmps65
go_wp2_with fail
refine (ae IS).mono ?_
rintro e w1 ⟨rfl,B1⟩
go_wp2_with fail
refine (ae S1 _ (h.but B1)).mono ?_
rintro e w2 ⟨rfl,B2⟩
go_wp2
go_ret
exact⟨rfl,B1.trans' B2⟩)
·(
have e1:Hid (t=⟨(zcf p).toArray⟩++⟨#[47]⟩++⟨(zcf n).toArray⟩):=by show _=_;rw[ae ht,zjh,if_neg h1]
rw[decide_eq_false h1] at IS
have S1:=af (fun W (h:qd W b p n)=>zop b p n W h hn0 hp hn t e1)
clear ht hp hn h1
go_enter func65,ntmps65
go_wp2_with fail
refine (ae IS).mono ?_
rintro e w1 ⟨rfl,B1⟩
go_wp2_with fail
refine (ae S1 _ (h.but B1)).mono ?_
rintro e w2 ⟨rfl,B2⟩
go_wp2
go_ret
exact⟨rfl,B1.trans' B2⟩))
theorem zue (b:Nat) (f:Rat) (w:World) (h:zi w b f) (hl:ja f 4000000) (t:ByteArray) (ht:Hid (t=zjh f.num f.den)) :
  Calls prog 12 #[.pointer (some ⟨b,0,none⟩)] w fun e w'=>e=.returned (.string t)∧But [] w w':=by(
have RS:=af (zji b f.num f.den w h (Nat.pos_of_ne_zero f.den_nz) hl.1 hl.2 t ht)
clear h hl ht
go_enter func12,ntmps12
go_wp2_with fail
refine (ae RS).mono ?_
rintro e w1 ⟨rfl,hb⟩
go_wp2
go_ret
exact⟨rfl,hb⟩)
theorem qae {a b:ByteArray} (h:a.data.toList=b.data.toList):a=b:=by
 cases a;cases b;simp only[ByteArray.mk.injEq];exact Array.ext' h
theorem zik (a b:ByteArray):(a++b).data.toList=a.data.toList++b.data.toList:=by simp
theorem qev (x:Rat):ut (decide (x.num<0)) x.num.natAbs x.den=zjh x.num x.den:=by(
apply qae
have e:zcf x.num=(if decide (x.num<0) then [45] else [])++Lib.decDigits x.num.natAbs:=by
 rw[zcf]
 by_cases h:x.num<0
 ·rw[if_pos h,decide_eq_true h];rfl
 ·rw[if_neg h,decide_eq_false h];rfl
have e2:zcf (x.den:Int)=Lib.decDigits x.den:=by rw[zcf,if_neg (by omega),Int.natAbs_natCast]
generalize decide (x.num<0)=r at *
rw[ut,zjh,zik]
by_cases hq:x.den=1
·rw[if_pos hq,if_pos hq,e]
 cases r <;> simp
·rw[if_neg hq,if_neg hq,zik,zik,zik,e,e2]
 cases r <;> simp)
theorem qeu:ut false 0 1=⟨#[48]⟩:=by(
rw[ut]
have:Lib.decDigits 0=[48]:=by rw[Lib.decDigits,dif_pos (by omega)];rfl
rw[this]
apply qae
rw[zik];rfl)
theorem qdn:Len (0:Rat) 1000000:=⟨by show (wd 18446744073709551616 0).length≤_;rw[zh];simp,Nat.le_trans (aj (B:=18446744073709551616) (by omega) 1 1 (by omega)) (by omega)⟩
theorem zdo {f:Rat} {n:Nat} (h:Len f n):ja f (2*n):=by(
have h1:=ak (B:=18446744073709551616) (by omega) _ n h.1
have h2:=ak (B:=18446744073709551616) (by omega) _ n h.2
have e:(18446744073709551616:Nat)^n=4294967296^(2*n):=by rw[Nat.pow_mul]
rw[e] at h1 h2
exact⟨aj (by omega) _ _ h1,aj (by omega) _ _ h2⟩)
theorem zfy (z:Int) (w:World) (h1:-9223372036854775808≤z) (h2:z<9223372036854775808) :
  Calls prog 19 #[.int .i64 z] w fun e w'=>∃ zb,e=.returned (.pointer (some ⟨zb,0,none⟩))∧zi w' zb (((z:Int):Rat))∧But [] w w':=by
 obtain⟨i1,i2⟩:=bj z
 exact (zmu z w h1 h2).mono fun e w' ⟨zb,he,hb,hr⟩=>⟨zb,he,by unfold zi;rw[i1,i2];exact hr,hb⟩
theorem zlq (xb yb:Nat) (f g:Rat) (w:World) (hx:zi w xb f) (hy:zi w yb g) (lf:ja f 2000000) (lg:ja g 2000000) :
  Calls prog 82 #[.pointer (some ⟨xb,0,none⟩),.pointer (some ⟨yb,0,none⟩)] w fun e w'=>∃ zb,e=.returned (.pointer (some ⟨zb,0,none⟩))∧zi w' zb (f+g)∧But [] w w' :=
 (zxt xb yb f g w hx hy lf lg).mono fun e w' ⟨zb,he,hb,hr,_⟩=>⟨zb,he,hr,hb⟩
theorem zrn (xb yb:Nat) (f g:Rat) (w:World) (hx:zi w xb f) (hy:zi w yb g) (lf:ja f 2000000) (lg:ja g 2000000) :
  Calls prog 28 #[.pointer (some ⟨xb,0,none⟩),.pointer (some ⟨yb,0,none⟩)] w fun e w'=>∃ zb,e=.returned (.pointer (some ⟨zb,0,none⟩))∧zi w' zb (f*g)∧But [] w w' :=
 (zmt xb yb f g w hx hy lf lg).mono fun e w' ⟨zb,he,hb,hr,_⟩=>⟨zb,he,hr,hb⟩
theorem qql (o u:Int) (f:Rat) (w:World) (ho1:-9223372036854775808≤o) (ho2:o<9223372036854775808) (hu1:-9223372036854775808≤u) (hu2:u<9223372036854775808) (hf:f.num*(if u=0 then 1 else u)=o*(f.den:Int)) :
  Calls prog 14 #[.agg #[.int .i64 o,.int .i64 u]] w fun e w'=>∃ zb,e=.returned (.pointer (some ⟨zb,0,none⟩))∧zi w' zb (f)∧But [] w w' :=
 (zpn o u f w ho1 ho2 hu1 hu2 hf).mono fun e w' ⟨zb,he,hb,hr,_⟩=>⟨zb,he,hr,hb⟩
theorem qfv (b:Nat) (f:Rat) (w:World) (h:zi w b f) (s:Int) (hs:s=f.num.sign) (hl:ja f 2000000) :
  Calls prog 44 #[.pointer (some ⟨b,0,none⟩)] w fun e w'=>e=.returned (.int .i64 s)∧But [] w w' :=
 (zui b f.num (f.den:Int) w h s hs (by have:=hl.1;omega)).mono fun e w' ⟨he,hw⟩=>⟨he,by rw[hw];exact But.refl _ _⟩
theorem ja.int {z:Int} (h:z.natAbs<18446744073709551616):ja ((z:Int):Rat) 2:=by
 obtain⟨i1,i2⟩:=bj z
 exact⟨by rw[i1];exact bf _ h,by rw[i2];exact bf _ (by omega)⟩
def qkg (u:Value):Prop:=(∀ s,u≠.bool s)∧∀ n:Int,u≠.int .u32 n
theorem za.znc {w w':World} {b o g:Nat} {z:Int} {u:Value} (h:za w b o z) (hb:But [g] w w') (hn:b≠g) (hc:w.cell? ⟨g,0,none⟩=some u) (hu:qkg u):za w' b o z:=by
 obtain⟨h0,v,h1,h2⟩:=h
 exact⟨hb.ag h0 (by simpa using hn),v,hb.ag h1 (by simpa using hn),h2.over hb hc (fun n e=>hu.2 n e)⟩
theorem zi.znc {w w':World} {b g:Nat} {f:Rat} {u:Value} (h:zi w b f) (hb:But [g] w w') (hc:w.cell? ⟨g,0,none⟩=some u) (hu:qkg u):zi w' b f:=by(
have hn:b≠g:=fun e=>by
 subst e
 have h1:=h.up.1
 rw[hc] at h1
 exact hu.1 _ (Option.some.inj h1)
exact⟨h.up.znc hb hn hc hu,h.low.znc hb hn hc hu,h.sa.but hb (by simpa using hn),h.sb.but hb (by simpa using hn)⟩)
theorem zgc (q:Option Addr):qkg (.pointer q):=⟨fun s e=>by simp at e,fun n e=>by simp at e⟩
def zld (w:World) (v:Value) (f:Rat):Prop:=∃ g,v=.pointer (some ⟨g,0,none⟩)∧zi w g f
theorem zld.but {w w':World} {v:Value} {f:Rat} (h:zld w v f) (hb:But [] w w'):zld w' v f:=h.elim fun g ⟨e,h⟩=>⟨g,e,h.but hb⟩
def xw (w:World) (v:Value) (fs:List Rat):Prop:=∃ a cap,v=.slice a fs.length cap∧fs.length≤cap∧∀ (i:Nat) (f:Rat),fs[i]? = some f→∃ b off u,a=some ⟨b,off,none⟩∧w.cell? ⟨b,off+i,none⟩=some u∧zld w u f
theorem xw.but {w w':World} {v:Value} {fs:List Rat} (h:xw w v fs) (hb:But [] w w'):xw w' v fs:=by(
obtain⟨a,cap,e,h1,h2⟩:=h
refine⟨a,cap,e,h1,fun i f hi=>?_⟩
obtain⟨b,off,u,h3,h4,h5⟩:=h2 i f hi
exact⟨b,off,u,h3,hb.ag h4 (by simp),h5.but hb⟩)
theorem xw.open {w:World} {v:Value} {fs:List Rat} (h:xw w v fs):∃ a cap,v=.slice a fs.length cap∧fs.length≤cap:=by
 obtain⟨a,cap,e,h1,-⟩:=h
 exact⟨a,cap,e,h1⟩
theorem xw.at {w:World} {a:Option Addr} {n cap:Nat} {fs:List Rat} (h:xw w (.slice a n cap) fs) (i:Nat) (hi:i<n):n=fs.length∧∃ b off g f,a=some ⟨b,off,none⟩∧w.cell? ⟨b,off+i,none⟩=some (.pointer (some ⟨g,0,none⟩))∧fs[i]? = some f∧zi w g f:=by(
obtain⟨a',cap',e,h1,h2⟩:=h
simp only[Value.slice.injEq] at e
obtain⟨rfl,rfl,rfl⟩:=e
obtain⟨b,off,u,h3,h4,g,rfl,h5⟩:=h2 i _ (List.getElem?_eq_getElem hi)
exact⟨rfl,b,off,g,_,h3,h4,List.getElem?_eq_getElem hi,h5⟩)
theorem zvp:∃ i,prog.info? 37 = some i∧i.zero=some (.pointer none)∧i.size=1∧i.bytes=8:=by(
have h:(prog.info? 37).map (fun i=>(i.zero,i.size,i.bytes))=some (some (.pointer none),1,8):=by kernel_rfl
cases e:prog.info? 37 with
| none=>rw[e] at h;simp at h
| some i =>
 rw[e] at h
 simp only[Option.map_some,Option.some.injEq,Prod.mk.injEq] at h
 exact⟨i,rfl,h.1,h.2.1,h.2.2⟩)
structure zgk (w:World) (base:Nat) (v:Value) (fs:List Rat) (us:List Value):Prop where
 own:w.ownsRow base 37 1 v fs.length us
 len:us.length=fs.length
 val:∀ (i:Nat) (f:Rat),fs[i]? = some f→∃ u,us[i]? = some u∧zld w u f
 nil:fs=[]→v=.slice none 0 0
theorem zgk.empty (w:World) (base:Nat):zgk w base (.slice none 0 0) [] []:=⟨World.ownsRow_nil _ _ _ _,rfl,fun i f h=>by simp at h,fun _=>rfl⟩
theorem zgk.but {w w':World} {base:Nat} {v:Value} {fs:List Rat} {us:List Value} (h:zgk w base v fs us) (hb:But [] w w'):zgk w' base v fs us :=
 ⟨zkj h.own hb,h.len,fun i f hi=>(h.val i f hi).elim fun u ⟨e,p⟩=>⟨u,e,p.but hb⟩,h.nil⟩
theorem zgk.form {w:World} {base:Nat} {v:Value} {fs:List Rat} {us:List Value} (h:zgk w base v fs us):∃ a c,v=.slice a fs.length c:=ownsRow_form h.own
theorem zgk.block {w:World} {base:Nat} {v:Value} {fs:List Rat} {us:List Value} (h:zgk w base v fs us) (h0:fs≠[]):∃ g cap,v=.slice (some ⟨g,0,none⟩) fs.length cap∧fs.length≤cap∧base≤g∧v.ownBlock=some g∧∃ q,w.cell? ⟨g,0,none⟩=some (.pointer q):=by(
have hl:0<fs.length:=List.length_pos_iff.2 h0
rcases h.own.2 with ⟨-,e⟩|⟨g,cap,cur,e,h1,h2,h3,-⟩
·omega
·refine⟨g,cap,e,h3,h1,by rw[e];rfl,?_⟩
 obtain⟨u,hu,b,rfl,-⟩:=h.val 0 _ (List.getElem?_eq_getElem hl)
 have hc:=h.own.cells (g:=g) (by rw[e];rfl) 0 _ hu
 exact⟨_,by simpa [Addr.add] using hc⟩)
theorem zgk.qrq {w:World} {base:Nat} {v:Value} {fs:List Rat} {us:List Value} (h:zgk w base v fs us):xw w v fs:=by(
by_cases h0:fs=[]
·subst h0
 rw[h.nil rfl]
 exact⟨none,0,rfl,Nat.le_refl _,fun i x hx=>by simp at hx⟩
·(
obtain⟨g,cap,e,h3,-,e2,-⟩:=h.block h0
refine⟨_,cap,e,h3,fun i f hi=>?_⟩
obtain⟨u,hu,hp⟩:=h.val i f hi
refine⟨g,0,u,rfl,?_,hp⟩
have hc:=h.own.cells (g:=g) (by rw[e];rfl) i u hu
have ea:(⟨g,0,none⟩:Addr).add i=⟨g,0+i,none⟩:=by
 by_cases hz:i=0
 ·simp[Addr.add,hz]
 ·simp[Addr.add,hz]
rw[ea] at hc
exact hc))
theorem zyv (w w0:World) (v:Value) (fs:List Rat) (us:List Value) (base:Nat) (hown:zgk w base v fs us) (g:Nat) (u:Value) (f:Rat) (c:w.cell? ⟨g,0,none⟩=some u) (hp:zld w u f) (hk:fs.length<1000000) (h0:But [] w0 w) (hb:w0.heap.size≤base) (hw:base≤w.heap.size) :
  ∃ v' w',(Builtin.append_ #[42,42] 42 #[v,.slice (some ⟨g,0,none⟩) 1 1]).run prog w=.ok v' w'∧zgk w' base v' (fs++[f]) (us++[u])∧But [] w0 w'∧But v.ownBlock.toList w w'∧w.heap.size≤w'.heap.size∧(∀ (b:Nat) (r:Rat),zi w b r→zi w' b r):=by(
obtain⟨i0,hi,hz0,hz1,hz2⟩:=zvp
obtain⟨v',w',hr,ho,hg,-⟩:=run_append_own (P:=prog) w base 42 42 37 i0 _ 1 8 underlying42 hi hz0 hz1 hz2 rfl (by decide) v fs.length us hown.own ⟨g,0,none⟩ 1 1 [u] rfl (fun j x hj=>by
  cases j with
  | zero=>simp at hj;subst hj;exact c
  | succ j=>simp at hj) (fun x hx=>by
  simp only[List.mem_cons,List.not_mem_nil,or_false] at hx
  subst hx
  obtain⟨b,rfl,-⟩:=hp
  rfl) (by unfold maxLen;omega) (by omega) hw
have hB:But v.ownBlock.toList w w':=⟨hg.os,hg.tape,hg.output,hg.size,fun j hj hn=>hg.block j hj (by
 intro e
 rw[← e] at hn
 simp at hn)⟩
have stay:∀ (b:Nat) (r:Rat),zi w b r→zi w' b r:=by
 by_cases h1:fs=[]
 ·have:v.ownBlock=none:=by rw[hown.nil h1];rfl
  rw[this] at hB
  exact fun b r h=>h.but hB
 ·obtain⟨gb,cap,-,-,-,e2,q,hq⟩:=hown.block h1
  rw[e2] at hB
  exact fun b r h=>h.znc hB hq (zgc q)
have stayP:∀ (x:Value) (r:Rat),zld w x r→zld w' x r:=fun x r ⟨b,e,h⟩=>⟨b,e,stay b r h⟩
refine⟨v',w',hr,⟨by rw[List.length_append];exact ho,by simp[hown.len],fun i q hi=>?_,fun e=>by simp at e⟩,ziy h0 hown.own hb hg,hB,hg.size,stay⟩
rcases Nat.lt_or_ge i fs.length with hlt | hge
·rw[List.getElem?_append_left hlt] at hi
 obtain⟨x,e1,h1⟩:=hown.val i q hi
 exact⟨x,by rw[List.getElem?_append_left (by rw[hown.len];exact hlt)];exact e1,stayP _ _ h1⟩
·(
have hi0:i=fs.length:=by
 have:=(List.getElem?_eq_some_iff.1 hi).1
 simp at this
 omega
subst hi0
rw[List.getElem?_append_right (Nat.le_refl _),Nat.sub_self] at hi
simp only[List.getElem?_cons_zero,Option.some.injEq] at hi
subst hi
refine⟨u,?_,stayP _ _ hp⟩
rw[List.getElem?_append_right (by rw[hown.len];exact Nat.le_refl _),hown.len,Nat.sub_self]
rfl))
def zbr (w:World) (v:Value) (ls:List (List Rat)):Prop:=∃ a cap,v=.slice a ls.length cap∧ls.length≤cap∧∀ i l,ls[i]? = some l→∃ b off u,a=some ⟨b,off,none⟩∧w.cell? ⟨b,off+i,none⟩=some u∧aq w u l
theorem zbr.get {w:World} {q:Option Addr} {n cap:Nat} {ls:List (List Rat)} (h:zbr w (.slice q n cap) ls) (i:Nat) (hi:i<ls.length):∃ b off u,q=some ⟨b,off,none⟩∧w.cell? ⟨b,off+i,none⟩=some u∧aq w u (ls[i]?.getD []):=by(
obtain⟨a,cap',e,-,h⟩:=h
simp only[Value.slice.injEq] at e
obtain⟨rfl,rfl,-⟩:=e
obtain⟨b,off,u,e1,h1,h2⟩:=h i ls[i] (List.getElem?_eq_getElem hi)
exact⟨b,off,u,e1,h1,by rw[List.getElem?_eq_getElem hi];exact h2⟩)
theorem ja.zcb {f:Rat} {m:Nat} (h:ja f m) (n:Nat):ja (f^n) (m*n+1):=by
 rw[← zmq];exact zjo h n
theorem qbs (ab:Nat) (f:Rat) (n:Nat) (w:World) (ha:zi w ab f) (lf:ja f 1000) (hn:n≤200) :
  Calls prog 27 #[.pointer (some ⟨ab,0,none⟩),.int .i64 (n:Int)] w fun e w'=>∃ zb,e=.returned (.pointer (some ⟨zb,0,none⟩))∧zi w' zb (f^n)∧But [] w w':=by(
have HA:=af ha
have HL:=af lf
have IN:=af (zmu 1 w (by omega) (by omega))
rw[← zmq]
clear ha lf
go_enter func27,ntmps27
go_wp2_with fail
refine (ae IN).mono ?_
rintro e w1 ⟨ib,rfl,B1,I1⟩
have K1:=af (And.intro B1 I1)
clear B1 I1 IN
go_wp2
go_loopw [5,6] (fun p i wr=>∃ (k pb:Nat),k≤n∧i=.int .i64 (k:Int)∧p=.pointer (some ⟨pb,0,none⟩)∧Hid (But [] w wr∧zi wr pb (Go.Proofs.YtagmkkiagjmimaaGreatDoor.zcb f k))) (fun _ i _=>n-(intOf i).toNat)
case atStart=>exact⟨0,ib,by omega,rfl,rfl,(ae K1).1,(ae K1).2⟩
case round =>(
obtain⟨k,pb,hk,rfl,rfl,HI⟩:=hrel
rename World=>wr
by_cases hlt:k<n
·(
have MU:=af (zmt pb ab (Go.Proofs.YtagmkkiagjmimaaGreatDoor.zcb f k) f wr (ae HI).2 ((ae HA).but (ae HI).1) ((zjo (ae HL) k).mono (by omega)) ((ae HL).mono (by omega)))
go_wp2_with fail
refine (ae MU).mono ?_
rintro e w2 ⟨zb,rfl,B2,R2,-⟩
have K2:Hid (But [] w w2∧zi w2 zb (Go.Proofs.YtagmkkiagjmimaaGreatDoor.zcb f (k+1))):=⟨(ae HI).1.trans' B2,R2⟩
clear B2 R2 MU
go_wp2
refine⟨⟨k+1,zb,by omega,by go_num,rfl,(ae K2).1,(ae K2).2⟩,?_⟩
simp[intOf];omega)
·(
have hke:k=n:=by omega
subst hke
go_wp2
go_ret
exact⟨pb,rfl,(ae HI).2,(ae HI).1⟩)))
theorem qik:∃ i,prog.info? 46 = some i∧i.zero=some (.slice none 0 0)∧i.size=1∧i.bytes=24:=by(
have h:(prog.info? 46).map (fun i=>(i.zero,i.size,i.bytes))=some (some (.slice none 0 0),1,24):=by kernel_rfl
cases e:prog.info? 46 with
| none=>rw[e] at h;simp at h
| some i =>
 rw[e] at h
 simp only[Option.map_some,Option.some.injEq,Prod.mk.injEq] at h
 exact⟨i,rfl,h.1,h.2.1,h.2.2⟩)
theorem qbp (wx:World) (n:Nat) (h:n<1000000):(Instr.makeSlice 63 (.int .i64 (n:Int)) (.int .i64 (n:Int))).run prog wx=.ok (.slice (some ⟨wx.heap.size,0,none⟩) n n) (wx.alloc (.cells (madeCells #[.slice none 0 0] n) 46)):=by(
obtain⟨ti,hi,hz,hs,hbt⟩:=qik
have hmk:=run_make (P:=prog) wx 63 46 ti _ underlying63 hi hz .i64 .i64 (n:Int) (n:Int) (by omega) (by omega) (by rw[hbt];omega) (by omega)
rw[hs,Int.toNat_natCast,Nat.mul_one] at hmk
exact hmk)
theorem qia (n o:Nat) (h:o<n):(madeCells #[Value.slice none 0 0] n)[o]? = some (Value.slice none 0 0):=by(
unfold madeCells
rw[Array.getElem?_map,Array.getElem?_eq_getElem (by simpa using h),Array.getElem_range,Option.map_some]
simp[Nat.mod_one])
theorem qdy {qs:List (Int × Int)} (hf:∀ q ∈ qs,Fits q):∀ r ∈ qs.map qf,Len r 1:=fun r hr=>by
 obtain⟨q,hq,rfl⟩:=List.mem_map.1 hr
 obtain⟨-,-,-,h,-⟩:=zjj q (hf q hq)
 exact h
theorem zrs (v:Value) (qs:List (Int × Int)) (w:World) (hq:zwo w v qs) (hf:∀ q ∈ qs,Fits q) (hn:qs.length≤1000) :
  Calls prog 18 #[v] w fun e w'=>∃ v',e=.returned v'∧aq w' v' (qs.map qf)∧But [] w w':=by(
have FS:=af (zuq v qs w hq hf hn)
obtain⟨a,cap,rfl,-,-⟩:=hq
clear hf
go_enter func18,ntmps18
go_wp2_with fail
refine (ae FS).mono ?_
rintro e w1 ⟨v',vs,rfl,hh,hb⟩
have H1:=af hh
have B1:=af hb
clear hh hb
go_wp2
go_ret
exact⟨_,rfl,(ae H1).znr,ae B1⟩)
end Go.Proofs.YtagmkkiagjmimaaGreatDoor
