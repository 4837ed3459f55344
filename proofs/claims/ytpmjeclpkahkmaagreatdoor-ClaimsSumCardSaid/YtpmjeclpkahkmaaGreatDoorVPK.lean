/- The fractions of pairs, as the Go text o -/
import Derived.Shelf.Strings.Cut
import Derived.Test.YtpmjeclpkahkmaaGreatDoorProg
import Derived.Test.YtpmjeclpkahkmaaGreatDoorVK2
import Derived.Test.YtpmjeclpkahkmaaGreatDoorVQ2
import Derived.Test.YtpmjeclpkahkmaaGreatDoorVQD
namespace Go.Proofs.YtpmjeclpkahkmaaGreatDoor
set_option linter.unusedVariables false
open Go.Proofs.Tryz
open Go.RowKit
set_option maxHeartbeats 16000000
set_option maxRecDepth 100000
theorem zti (v:Value) (qs:List (Int × Int)) (w:World) (hq:zsd w v qs) (hf:∀ q ∈ qs,Fits q) (hn:qs.length≤1000) :
  Calls prog 28 #[v] w fun e w'=>∃ v' vs,e=.returned v'∧zxt w' w.heap.size 27 v' (qs.map qf) vs∧But [] w w':=by(
obtain⟨a,cap,rfl,hcap,hc⟩:=hq
obtain⟨R,X,Y,hV⟩:∃ (R:Nat→Bool) (X Y:Nat→Int),∀ i,i<qs.length→(∀ W,aq W (.agg #[.bool (R i),.int .u64 (X i),.int .u64 (Y i),.pointer none]) (qf (qs[i]?.getD (0,0))))∧∀ W,Calls prog 10 #[.agg #[.int .i64 (qs[i]?.getD (0,0)).1,.int .i64 (qs[i]?.getD (0,0)).2]] W fun e w'=>e=.returned (.agg #[.bool (R i),.int .u64 (X i),.int .u64 (Y i),.pointer none])∧But [] W w':=by
 have h:∀ i,∃ t:Bool × Int × Int,i<qs.length→(∀ W,aq W (.agg #[.bool t.1,.int .u64 t.2.1,.int .u64 t.2.2,.pointer none]) (qf (qs[i]?.getD (0,0))))∧∀ W,Calls prog 10 #[.agg #[.int .i64 (qs[i]?.getD (0,0)).1,.int .i64 (qs[i]?.getD (0,0)).2]] W fun e w'=>e=.returned (.agg #[.bool t.1,.int .u64 t.2.1,.int .u64 t.2.2,.pointer none])∧But [] W w':=fun i=>by
  by_cases hi:i<qs.length
  ·rw[List.getElem?_eq_getElem hi]
   obtain⟨r,x,y,-,h1,h2⟩:=zpm qs[i] (hf _ (List.getElem_mem hi))
   exact⟨(r,x,y),fun _=>⟨h1,h2⟩⟩
  ·exact⟨(false,0,0),fun h=>absurd h hi⟩
 obtain⟨t,ht⟩:=Classical.axiomOfChoice h
 exact⟨fun i=>(t i).1,fun i=>(t i).2.1,fun i=>(t i).2.2,ht⟩
have hcell:∀ i,i<qs.length→∃ b off,a=some ⟨b,off,none⟩∧w.cell? ⟨b,off+i*2,none⟩=some (.int .i64 (qs[i]?.getD (0,0)).1)∧w.cell? ⟨b,off+i*2+1,none⟩=some (.int .i64 (qs[i]?.getD (0,0)).2):=fun i hi=>by
 rw[List.getElem?_eq_getElem hi]
 exact hc i _ (List.getElem?_eq_getElem hi)
have hmap:∀ i,(qs.map qf)[i]? = (qs[i]?).map qf:=fun i=>List.getElem?_map ..
have HM:=af hmap
have HC:=af hcell
have HV:=af hV
clear hmap hcell hV hc hf
obtain⟨n,hnn⟩:∃ n,n=qs.length:=⟨_,rfl⟩
have HN:=af hnn
rw[← hnn] at hn hcap HC HV
rw[← hnn]
clear hnn
go_enter func28,ntmps28
go_wp2
go_loopw [3,8] (fun o i wr=>∃ k:Nat,k≤n∧i=.int .i64 (k:Int)∧Hid (wr.ownsRow w.heap.size 27 4 o k (zbk ((List.range k).map fun i=>.agg #[.bool (R i),.int .u64 (X i),.int .u64 (Y i),.pointer none]))∧But [] w wr)) (fun _ i _=>n-(intOf i).toNat)
case atStart=>exact⟨0,Nat.zero_le _,rfl,World.ownsRow_nil _ _ _ _,But.refl _ _⟩
case round =>(
obtain⟨k,hk,rfl,HI⟩:=hrel
rename World=>wr
by_cases hlt:k<n
·(
obtain⟨b,off,rfl,c0,c1⟩:=ae HC k hlt
have c0':=(ae HI).2.ag c0 (by simp)
have c1':=(ae HI).2.ag c1 (by simp)
obtain⟨hva,hvb⟩:=ae HV k hlt
have PF:=af hvb
clear hva hvb c0 c1
generalize (qs[k]?.getD (0,0)).1=q1 at *
generalize (qs[k]?.getD (0,0)).2=q2 at *
have ba:=(But.refl [] wr).alloc (.cells #[.int .i64 q1,.int .i64 q2] 23)
have BA:=af ba
clear ba
go_wp2_with fail
refine (ae PF _).mono ?_
rintro e w1 ⟨rfl,hb1⟩
have B1:Hid (But [] wr w1):=(ae BA).trans' hb1
clear hb1
obtain⟨V,hV⟩:∃ V,V=w1.alloc (.cells #[.bool (R k),.int .u64 (X k),.int .u64 (Y k),.pointer none] 27):=⟨_,rfl⟩
have cc:P4 V w1.heap.size (R k) (X k) (Y k) none:=by rw[hV];exact⟨by simp,by simp,by simp,by simp⟩
have bV:But [] wr V:=(ae B1).trans' (by rw[hV];exact (But.refl _ _).alloc _)
have oV:=zfq (ae HI).1 bV
obtain⟨v',w',hr,ho,hg⟩:=zve V w.heap.size u3 k _ oV w1.heap.size _ _ _ _ cc (by omega) ((ae HI).2.trans' bV).size
have BF:Hid (But [] w w'):=ou ((ae HI).2.trans' bV) oV (Nat.le_refl _) hg
have HO:=af ho
rw[hV] at hr
have HR:=af hr
clear hr ho hg oV bV cc hV
go_wp2_with (at_builtin;refine qp rfl _ _ 45 45 rfl _ _ v' w' rfl rfl (ae HR) ?_)
refine⟨⟨k+1,by omega,by go_num,by rw[List.range_succ,List.map_append];exact ae HO,ae BF⟩,by simp[intOf];omega⟩)
·(
obtain rfl:k=n:=by omega
obtain⟨a',c',rfl⟩:=ownsRow_form (ae HI).1
go_wp2
go_ret
have hlen:(qs.map qf).length=k:=by rw[List.length_map];exact (ae HN).symm
refine⟨_,_,rfl,⟨by rw[hlen];exact (ae HI).1,by simp[hlen],fun i f hi=>?_⟩,(ae HI).2⟩
have hik:i<k:=by rw[← hlen];exact (List.getElem?_eq_some_iff.1 hi).1
refine⟨_,_,_,_,by rw[List.getElem?_map,List.getElem?_range hik];rfl,?_⟩
have h1:=(ae HV i hik).1 wr
rw[ae HM i] at hi
cases hq:qs[i]? with
| none=>rw[hq] at hi;simp at hi
| some q =>
 rw[hq] at hi h1
 simp only[Option.map_some,Option.some.injEq] at hi
 rw[← hi]
 exact h1)))
def sgR (f:Nat→Rat):Nat→Rat
 | 0=>0
 | k+1=>sgR f k+f k
theorem zpg (f g:Nat→Rat):∀ n,(∀ k,k<n→f k=g k)→sgR f n=sgR g n
 | 0,_=>rfl
 | n+1,h=>by
  show sgR f n+f n=sgR g n+g n
  rw[zpg f g n (fun k hk=>h k (by omega)),h n (by omega)]
theorem zst:∀ n,sgR (fun _=>0) n=0
 | 0=>rfl
 | n+1=>by
  show sgR (fun _=>0) n+0=0
  rw[zst n];grind
theorem znj (n:Nat) (h:1≤n):Len 0 n:=⟨Nat.le_trans (aj (by omega) _ 1 (by decide)) h,Nat.le_trans (aj (by omega) _ 1 (by decide)) h⟩
theorem qgt (x y:Rat) (r:Int) (hr:r=zdb (x.num*(y.den:Int)) (y.num*(x.den:Int))):(r != 0)=!decide (x=y):=by(
have h1:r=0↔x=y:=by
 have hle:x.num*(y.den:Int)=y.num*(x.den:Int)↔x=y:=by
  constructor
  ·intro h
   exact Rat.le_antisymm ((Rat.le_iff _ _).2 (by omega)) ((Rat.le_iff _ _).2 (by omega))
  ·intro h
   rw[h]
 rw[← hle,hr]
 unfold zdb
 constructor
 ·intro h
  split at h
  ·omega
  ·split at h
   ·assumption
   ·omega
 ·intro h
  rw[if_neg (by omega),if_pos h]
by_cases h:x=y
·rw[h1.2 h,decide_eq_true h];rfl
·rw[decide_eq_false h]
 have h2:r≠0:=fun e=>h (h1.1 e)
 simpa using h2)
def zdr (fs:List Rat):Rat:=fs.foldl (fun s f=>s+f) 0
theorem zgn (fs:List Rat) (k:Nat) (hk:k<fs.length):zdr (fs.take (k+1))=zdr (fs.take k)+fs[k]?.getD 0:=by(
unfold zdr
rw[List.take_add_one,List.getElem?_eq_getElem hk,List.foldl_append]
rfl)
theorem znk (c:Nat) (fs:List Rat) (h:∀ f ∈ fs,Len f c):∀ k,k≤fs.length→Len (zdr (fs.take k)) (k*(c+1)+1)
 | 0,_=>by
  rw[List.take_zero]
  exact znj _ (by omega)
 | k+1,hk=>by
  have ih:=znk c fs h k (by omega)
  rw[zgn fs k (by omega),List.getElem?_eq_getElem (by omega)]
  exact zyq ih (h _ (List.getElem_mem (by omega))) _ (by rw[Nat.succ_mul];omega)
def jo (fs:List Rat):Int:=if fs.length<1∨201<fs.length then 4 else if fs.any (fun f=>decide (f.num<0)) then 1 else if zdr fs=1 then 0 else 10
theorem zaf (v:Value) (fs:List Rat) (c:Nat) (w:World) (hv:au w v fs) (hn:fs.length≤1000) (lf:∀ f ∈ fs,Len f c) (hc:c≤100) :
  Calls prog 108 #[v] w fun e w'=>e=.returned (ig (jo fs))∧But [] w w':=by(
obtain⟨q,cap,rfl,hcap,-⟩:=id hv
obtain⟨n,hN⟩:∃ n,n=fs.length:=⟨_,rfl⟩
rw[← hN] at hn hcap ⊢
rw[← hN] at hv
have HV:=af hv
have HN:=af hN
clear hv hN
obtain⟨ce,hce⟩:∃ ce,ce=jo fs:=⟨_,rfl⟩
rw[← hce]
have HCE:=af hce
clear hce
go_enter func108,ntmps108
by_cases h0:n<1
·(
obtain rfl:n=0:=by omega
have e4:ce=4:=by rw[ae HCE];unfold jo;rw[if_pos (.inl (by have:=ae HN;omega))]
subst e4
go_wp2
go_ret
exact⟨rfl,But.refl _ _⟩)
·(
by_cases h1:201<n
·(
have e4:ce=4:=by rw[ae HCE];unfold jo;rw[if_pos (.inr (by have:=ae HN;omega))]
subst e4
go_wp2
go_ret
exact⟨rfl,But.refl _ _⟩)
·(
go_wp2
have x3:=bf.new w false 0 0 none 0 27 (zhn _)
have bV:But [] w (w.alloc (.cells #[.bool false,.int .u64 0,.int .u64 0,.pointer none] 27)):=(But.refl _ _).alloc _
have X3:=af x3
have BV:=af bV
clear x3 bV
have q3:w.heap.size≤w.heap.size:=Nat.le_refl _
generalize hg3:w.heap.size=g3 at X3
have Q3:Hid (w.heap.size≤g3):=by show _≤_;omega
clear hg3 q3
generalize w.alloc (.cells #[.bool false,.int .u64 0,.int .u64 0,.pointer none] 27)=V at *
go_loopw [17] (fun iv wr=>∃ k:Nat,k≤n∧iv=.int .i64 (k:Int)∧Hid ((∀ f ∈ fs.take k,¬ f.num<0)∧bf wr g3 (zdr (fs.take k))∧But [] w wr)) (fun iv _=>n-(intOf iv).toNat)
case atStart=>exact⟨0,Nat.zero_le _,rfl,fun f hf=>by simp at hf,ae X3,ae BV⟩
case round =>(
obtain⟨k,hk,rfl,HI⟩:=hrel
rename World=>wr
clear X3 BV
by_cases hlt:k<n
·(
have hkl:k<fs.length:=by have:=ae HN;omega
have hfx:=(ae HV).but (ae HI).2.2
rcases hfx.open with ⟨er,-⟩|⟨-,rb,roff,rcap2,er,-,-⟩
·rw[er] at hkl
 simp at hkl
simp only[Value.slice.injEq] at er
obtain⟨rfl,-,rfl⟩:=er
obtain⟨sr,xr,yr,pr,⟨r0,r1,r2,r3⟩,hfr⟩:=hfx.get k hlt
obtain⟨f,hff⟩:∃ f,f=fs[k]?.getD 0:=⟨_,rfl⟩
rw[← hff] at hfr
have hmem:f ∈ fs:=by rw[hff,List.getElem?_eq_getElem hkl];exact List.getElem_mem hkl
have bA:But [] wr (wr.alloc (.cells #[.bool sr,.int .u64 xr,.int .u64 yr,.pointer pr] 27)):=(But.refl _ _).alloc _
have BA:=af bA
have x5:=bf.new wr sr xr yr pr _ 27 hfr
have X5:=af x5
have SG:=af (fun W (h:But [] wr W)=>om _ f W (hfr.but h))
have HFR:=af hfr
have HFF:=af hff
clear hfx hfr bA x5 hff
by_cases hneg:f.num<0
·(
have e1:ce=1:=by
 rw[ae HCE];unfold jo
 rw[if_neg (by have:=ae HN;omega),if_pos (List.any_eq_true.2 ⟨f,hmem,decide_eq_true hneg⟩)]
subst e1
rw[Int.sign_eq_neg_one_of_neg hneg] at SG
go_wp2_with fail
refine (ae SG _ (ae BA)).mono ?_
rintro e w1 ⟨rfl,hb1⟩
have B1:Hid (But [] w w1):=((ae HI).2.2.trans' (ae BA)).trans' hb1
clear hb1
go_wp2
go_ret
exact⟨rfl,ae B1⟩)
·(
have hsg:0≤f.num.sign:=by
 rcases Int.lt_trichotomy f.num 0 with h | h | h
 ·omega
 ·rw[h];decide
 ·rw[Int.sign_eq_one_of_pos h];decide
obtain⟨sg,hsgn⟩:∃ sg,sg=f.num.sign:=⟨_,rfl⟩
rw[← hsgn] at SG hsg
clear hsgn
go_wp2_with fail
refine (ae SG _ (ae BA)).mono ?_
rintro e w1 ⟨rfl,hb1⟩
have B01:=af ((ae BA).trans' hb1)
have X51:=af ((ae X5).but hb1)
have X31:=af ((ae HI).2.1.but (ae B01))
have B1:=af ((ae HI).2.2.trans' (ae B01))
have L5:g3<wr.heap.size:=(ae HI).2.1.lt
clear hb1 SG X5 r0 r1 r2 r3
generalize wr.heap.size=g5 at *
obtain⟨⟨t3,a3,b3,q3,⟨c0,c1,c2,c3⟩,hf3⟩,z3⟩:=ae X31
obtain⟨⟨t5,a5,b5,q5,⟨d0,d1,d2,d3⟩,hf5⟩,-⟩:=ae X51
have ls:=znk c fs lf k (by omega)
have hkc:k*(c+1)≤1000*101:=Nat.mul_le_mul (by omega) (by omega)
have AD:=af (zfy (zdn 200000 200000 (by omega) _ _ _ _ w1 hf3 hf5 (ls.mono (by omega)) ((lf f hmem).mono (by omega))))
clear hf3 hf5 ls hkc X51
go_wp2_with fail
refine (ae AD).mono ?_
rintro e w2 ⟨s7,x7,y7,p7,rfl,hf7,hb7⟩
have stp:=zgn fs k hkl
rw[← ae HFF] at stp
rw[← stp] at hf7
have l31:g3<w1.heap.size:=ai c0
have z3':∀ j,w2.frozen? ⟨g3,j,none⟩=false:=fun j=>(hb7.frozen (p:=⟨g3,j,none⟩) l31 (by simp)).trans (z3 j)
replace c0:=hb7.ag c0 (by simp)
replace c1:=hb7.ag c1 (by simp)
replace c2:=hb7.ag c2 (by simp)
replace c3:=hb7.ag c3 (by simp)
have D3:=af ((ae X31).but hb7)
have B2:=af ((ae B1).trans' hb7)
have HF7:=af hf7
clear hf7 hb7 AD d0 d1 d2 d3 X31 B1 B01 z3 stp
go_wp2
have hP:=ax w2 g3 s7 x7 y7 p7
refine⟨⟨k+1,by omega,by go_num,fun f' hf'=>?_,(ae D3).put (ae HF7),(ae B2).trans hP (fun x hx=>by simp at hx;subst hx;exact .inr (ae Q3))⟩,by simp[intOf];omega⟩
rw[List.take_add_one,List.getElem?_eq_getElem hkl] at hf'
rcases List.mem_append.1 hf' with h1 | h1
·have h2:=(ae HI).1 f' h1
 omega
·(
simp at h1
rw[h1]
have:=ae HFF
rw[List.getElem?_eq_getElem hkl,Option.getD_some] at this
rw[← this]
omega)))
·(
obtain rfl:k=n:=by omega
have hall:fs.take k=fs:=by rw[ae HN,List.take_length]
obtain⟨hpos,⟨⟨t3,a3,b3,q3,c3,hf3⟩,z3⟩,hbw⟩:=ae HI
rw[hall] at hpos hf3
obtain⟨ws,wx,FW,CW⟩:=zdv 1 (by omega) (by omega)
obtain⟨r,hr⟩:∃ r,r=zdb ((zdr fs).num*((((1:Int):Rat)).den:Int)) ((((1:Int):Rat)).num*((zdr fs).den:Int)):=⟨_,rfl⟩
have ls:=znk c fs lf fs.length (Nat.le_refl _)
rw[List.take_length] at ls
have hkc:fs.length*(c+1)≤1000*101:=Nat.mul_le_mul (by have:=ae HN;omega) (by omega)
have CM:=af (fun W (h:But [] wr W)=>zlf _ _ (zdr fs) ((1:Int):Rat) W (hf3.but h) (FW W) (ls.mono (by omega)) ((zio 1 (by decide)).mono (by omega)) r hr)
have hr0:(r != 0)=!decide (zdr fs=1):=qgt _ _ r hr
have HR0:=af hr0
have HPOS:=af hpos
have HBW:=af hbw
have C3:=af c3
have CWH:=af CW
clear hall hpos hf3 z3 hbw hr ls hkc hr0 FW CW HI
go_wp2
refine zry 11 _ _ wr t3 a3 b3 q3 ws wx r (by simp) g3 (by simp[Act.eval]) c3 (ae CWH) (fun w' hb=>ae CM w' hb) ?_
intro w1 hb1
have B1:=af ((ae HBW).trans' hb1)
simp only[bj,List.foldl_cons,List.foldl_nil,Act.put,List.setIfInBounds_toArray,List.set_cons_zero,List.set_cons_succ]
rw[ae HR0]
have nn:¬ (fs.length<1∨201<fs.length):=by have:=ae HN;omega
have nany:fs.any (fun f=>decide (f.num<0))=false:=by
 rw[List.any_eq_false]
 intro f hf
 simpa using ae HPOS f hf
by_cases hone:zdr fs=1
·(
have e1:ce=0:=by rw[ae HCE];unfold jo;rw[if_neg nn,nany];simp[hone]
subst e1
rw[decide_eq_true hone]
clear c3 hb1
go_wp2
go_ret
exact⟨rfl,ae B1⟩)
·(
have e1:ce=10:=by rw[ae HCE];unfold jo;rw[if_neg nn,nany];simp[hone]
subst e1
rw[decide_eq_false hone]
clear c3 hb1
go_wp2
go_ret
exact⟨rfl,ae B1⟩))))))
theorem zlu (f:Rat):f*((f.den:Int):Rat)=((f.num:Int):Rat):=by(
have h0:((f.den:Int):Rat)≠0:=fun h=>by
 have h2:((f.den:Int):Rat)=((0:Int):Rat):=h
 have:=Rat.intCast_inj.1 h2
 have:=den_pos f
 omega
have h2:=Rat.div_mul_cancel (a:=((f.num:Int):Rat)) h0
rw[← Rat.divInt_eq_div,Rat.num_divInt_den] at h2
exact h2)
def zjj (w:World) (v:Value) (ls:List (List Rat)):Prop:=∃ a cap,v=.slice a ls.length cap∧ls.length≤cap∧∀ i l,ls[i]? = some l→∃ b off u,a=some ⟨b,off,none⟩∧w.cell? ⟨b,off+i,none⟩=some u∧au w u l
theorem zjj.get {w:World} {q:Option Addr} {n cap:Nat} {ls:List (List Rat)} (h:zjj w (.slice q n cap) ls) (i:Nat) (hi:i<ls.length):∃ b off u,q=some ⟨b,off,none⟩∧w.cell? ⟨b,off+i,none⟩=some u∧au w u (ls[i]?.getD []):=by(
obtain⟨a,cap',e,-,h⟩:=h
simp only[Value.slice.injEq] at e
obtain⟨rfl,rfl,-⟩:=e
obtain⟨b,off,u,e1,h1,h2⟩:=h i ls[i] (List.getElem?_eq_getElem hi)
exact⟨b,off,u,e1,h1,by rw[List.getElem?_eq_getElem hi];exact h2⟩)
end Go.Proofs.YtpmjeclpkahkmaaGreatDoor
namespace Go.Proofs
open Go.Proofs.Tryz
open Go.Shelf Go.RowKit
def Tryz.lays145_ren : Go.Shelf.Ren := ⟨fun | 145 => 259 | 217 => 331 | 219 => 317 | 220 => 293 | 224 => 333 | 225 => 332 | 266 => 338 | 267 => 334 | 314 => 339 | n => n, fun | 3 => 3 | 4 => 4 | 5 => 5 | 9 => 9 | 46 => 321 | 51 => 299 | 59 => 312 | 146 => 378 | n => n, fun | 1 => 5 | n => n⟩
theorem Tryz.lays145 : Go.Proofs.Lays.n145 Tryz.prog Tryz.lays145_ren := {
  mixed := by kernel_rfl
  f145 := Tryz.func259.trans (congrArg some (by kernel_rfl))
  f217 := Tryz.func331.trans (congrArg some (by kernel_rfl))
  f219 := Tryz.func317.trans (congrArg some (by kernel_rfl))
  f220 := Tryz.func293.trans (congrArg some (by kernel_rfl))
  f224 := Tryz.func333.trans (congrArg some (by kernel_rfl))
  f225 := Tryz.func332.trans (congrArg some (by kernel_rfl))
  f266 := Tryz.func338.trans (congrArg some (by kernel_rfl))
  f267 := Tryz.func334.trans (congrArg some (by kernel_rfl))
  f314 := Tryz.func339.trans (congrArg some (by kernel_rfl))
  t3 := Tryz.underlying3
  a3 := Tryz.isAgg3
  z3 := Tryz.sizeOf3
  v3 := Tryz.zeroValue3
  t4 := Tryz.underlying4
  a4 := Tryz.isAgg4
  z4 := Tryz.sizeOf4
  v4 := Tryz.zeroValue4
  t5 := Tryz.underlying5
  a5 := Tryz.isAgg5
  z5 := Tryz.sizeOf5
  v5 := Tryz.zeroValue5
  t9 := Tryz.underlying9
  a9 := Tryz.isAgg9
  z9 := Tryz.sizeOf9
  v9 := Tryz.zeroValue9
  t46 := Tryz.underlying321
  a46 := Tryz.isAgg321
  z46 := Tryz.sizeOf321
  v46 := Tryz.zeroValue321
  t51 := Tryz.underlying299
  a51 := Tryz.isAgg299
  z51 := Tryz.sizeOf299
  v51 := Tryz.zeroValue299
  t59 := Tryz.underlying312
  a59 := Tryz.isAgg312
  z59 := Tryz.sizeOf312
  v59 := Tryz.zeroValue312
  t146 := Tryz.underlying378
  a146 := Tryz.isAgg378
  z146 := Tryz.sizeOf378
  v146 := Tryz.zeroValue378
  g1 := by kernel_rfl }
theorem ziu (d:UInt8):∀ (pre post:List UInt8),d ∉ pre→Lib.index (pre++d::post) [d]=(pre.length:Int)
 | [],post,_=>by simp[Lib.index,List.isPrefixOf]
 | b::l,post,h=>by
  have hb:¬ d=b:=fun e=>h (by simp[e])
  have ih:=ziu d l post (fun e=>h (by simp[e]))
  rw[List.cons_append,Lib.index,ih]
  have h1:([d].isPrefixOf (b::(l++d::post)))=false:=by simp[List.isPrefixOf,hb]
  rw[h1]
  have h2:(((l.length:Nat):Int)==-1)=false:=by rw[beq_eq_false_iff_ne];omega
  simp[h2]
theorem index_none (d:UInt8):∀ (l:List UInt8),d ∉ l→Lib.index l [d]=-1
 | [],_=>by simp[Lib.index]
 | b::l,h=>by
  have hb:¬ d=b:=fun e=>h (by simp[e])
  have ih:=index_none d l (fun e=>h (by simp[e]))
  rw[Lib.index,ih]
  have h1:([d].isPrefixOf (b::l))=false:=by simp[List.isPrefixOf,hb]
  rw[h1]
  simp
theorem qnp (d:UInt8) (l:List UInt8) (h:d ∉ l):Lib.cut l [d]=(l,[],false):=by(
unfold Lib.cut
rw[index_none d l h]
simp)
theorem zxe (d:UInt8) (pre post:List UInt8) (h:d ∉ pre):Lib.cut (pre++d::post) [d]=(pre,post,true):=by(
unfold Lib.cut
rw[ziu d pre post h,if_pos (by omega),Int.toNat_natCast]
simp)
theorem Tryz.strings_Cut (t:ByteArray) (d:UInt8) (pre post:List UInt8) (m:Int) (w:World) (ht:t.data.toList=pre++d::post) (hd:d ∉ pre) (hs:t.size<4294967281) (hm:w.cell? ⟨5,0,none⟩=some (.int .i64 m)) :
  Calls prog 259 #[.string t,.string ⟨#[d]⟩] w fun e w'=>e=.returned (.tuple #[.string ⟨pre.toArray⟩,.string ⟨post.toArray⟩,.bool true])∧∃ n,w'=w.drewN n:=by(
have h:=Any.strings_Cut Tryz.lays145 t ⟨#[d]⟩ m w hs hm
rw[ht,show (⟨#[d]⟩:ByteArray).data.toList=[d] from rfl,zxe d pre post hd] at h
exact h)
end Go.Proofs
namespace Go.Proofs.YtpmjeclpkahkmaaGreatDoor
open Go.Proofs.Tryz
open Go.RowKit
set_option maxHeartbeats 16000000
set_option maxRecDepth 100000
theorem qbt (f:Rat) (r:Int) (hr:r=zdb (f.num*((((fl f:Int):Rat)).den:Int)) (((fl f:Int):Rat).num*(f.den:Int))):(r==0)=decide (f.den=1):=by(
obtain⟨e1,e2⟩:=bk (fl f)
rw[e1,e2] at hr
by_cases h:f.den=1
·have hw:=(zix f h).1
 rw[hw,h] at hr
 rw[hr,decide_eq_true h]
 simp[zdb]
·(
rw[decide_eq_false h,beq_eq_false_iff_ne]
intro e
rw[e] at hr
unfold zdb at hr
split at hr
·omega
·(
split at hr
·(
rename_i h1 h2
have h3:=zzd h
have h4:f.num=fl f*(f.den:Int):=by omega
apply h3
rw[h4,Int.natAbs_mul,Int.natAbs_natCast]
exact Nat.mul_mod_left _ _)
·omega)))
theorem qhx (f:Rat) (h:f.den≠1):∃ pre:List UInt8,(zbw (decide (f.num<0)) f.num.natAbs f.den).data.toList=pre++47::Lib.decDigits f.den∧(47:UInt8) ∉ pre:=by(
have hd:(47:UInt8) ∉ Lib.decDigits f.num.natAbs:=fun hm=>by
 have:=(znu f.num.natAbs).1 _ hm
 revert this
 decide
refine⟨(if decide (f.num<0)=true then [45] else [])++Lib.decDigits f.num.natAbs,?_,?_⟩
·(
unfold zbw
rw[if_neg h]
by_cases hs:f.num<0
·simp[hs]
·simp[hs])
·by_cases hs:f.num<0
 ·simp[hs];exact hd
 ·simp[hs];exact hd)
theorem qfo (d:Nat):(((d:Int):Rat)).num=sgn false d*((((d:Int):Rat)).den:Int):=by(
obtain⟨e1,e2⟩:=bk (d:Int)
rw[e1,e2]
simp[sgn])
theorem qib (n:Nat):qy ((10:Int):Rat) n=(((10^n:Nat):Int):Rat):=by(
obtain⟨e1,e2⟩:=zcj ((10:Int):Rat) n
obtain⟨i1,i2⟩:=bk (10:Int)
obtain⟨j1,j2⟩:=bk ((10^n:Nat):Int)
rw[i1] at e1
rw[i2,Nat.one_pow] at e2
apply Rat.ext
·rw[e1,j1];simp
·rw[e2,j2])
theorem zep (d m:Nat) (h:d≤m) {L:Nat} (hL:(wd 18446744073709551616 m).length≤L) (h1:1≤L):Len (((d:Nat):Int):Rat) L:=by(
obtain⟨e1,e2⟩:=bk (d:Int)
refine⟨?_,?_⟩
·rw[e1,Int.natAbs_natCast]
 exact Nat.le_trans (av h) hL
·rw[e2]
 exact Nat.le_trans (aj (by omega) _ 1 (by omega)) h1)
theorem zzw (ds:List UInt8) (j n:Nat):jy (ds.take (j+n))=jy (ds.take j)*10^((ds.drop j).take n).length+jy ((ds.drop j).take n):=by
 rw[List.take_add,zbh]
theorem zqa (ds:List UInt8) (j:Nat):jy (ds.take j)≤jy ds:=by(
have h:=zbh (ds.take j) (ds.drop j)
rw[List.take_append_drop] at h
rw[h]
exact Nat.le_trans (Nat.le_mul_of_pos_right _ (Nat.pow_pos (by omega))) (Nat.le_add_right _ _))
theorem qfn (a b c d:Nat) (h:d=a*b+c):(((a:Nat):Int):Rat)*(((b:Nat):Int):Rat)+(((c:Nat):Int):Rat)=(((d:Nat):Int):Rat):=by
 subst h
 simp
theorem qjc {f:Rat} {n:Nat} (h:Len f n) (hn:0<n):Len ((fl f:Int):Rat) (n+1):=by(
obtain⟨h1,h2⟩:=bk (fl f)
have h3:=h.lt
have hb:(fl f).natAbs≤f.num.natAbs+1:=by
 by_cases hd:f.den=1
 ·rw[(zix f hd).1];omega
 ·rw[zxa f hd,jk]
  have:=Nat.div_le_self f.num.natAbs f.den
  split <;> omega
refine znl (m:=n+1) (n:=1) ?_ (by rw[h2,Nat.pow_one];omega) (n+1) (Nat.le_refl _) (by omega)
rw[h1,Nat.pow_succ]
have h4:0 < 18446744073709551616^n:=Nat.pow_pos (by omega)
omega)
def qmm (v:Value):Nat:=match v with
 | .string t=>t.size
 | _=>0
theorem qbl (v:Value) (f:Rat) (w:World) (m:Int) (hf:aq w v f) (lf:Len f 400000) (htab:Lib.TabIs prog w "internal/strconv.uint64pow10" .u64 Lib.pow10Tab) (hm:w.cell? ⟨5,0,none⟩=some (.int .i64 m)) :
  Calls prog 243 #[v] w fun e w'=>∃ v',e=.returned v'∧aq w' v' (((f.den:Nat):Int):Rat)∧But [] w w':=by(
obtain⟨x1,y1,p1,rfl,-⟩:=id hf.agg
generalize hsf:decide (f.num<0)=s1 at *
obtain⟨W,hW⟩:∃ W,W=(w.alloc (.cells #[.bool s1,.int .u64 x1,.int .u64 y1,.pointer p1] 27)).alloc (.cells #[.bool false,.int .u64 0,.int .u64 0,.pointer none] 27):=⟨_,rfl⟩
obtain⟨tA,tC,fz,hB⟩:=ol w W _ _ _ hW
have a0:=tA 0
have a1:=tA 1
have a2:=tA 2
have a3:=tA 3
have r0:=tC 0
have r1:=tC 1
have r2:=tC 2
have r3:=tC 3
simp only[List.getElem?_toArray,List.getElem?_cons_zero,List.getElem?_cons_succ] at a0 a1 a2 a3 r0 r1 r2 r3
obtain⟨r,hr⟩:∃ r,r=zdb (f.num*((((fl f:Int):Rat)).den:Int)) (((fl f:Int):Rat).num*(f.den:Int)):=⟨_,rfl⟩
have HR0:=af (qbt f r hr)
have lfl:Len ((fl f:Int):Rat) 33554431:=(qjc lf (by omega)).mono (by omega)
have FL:=af (fun W' (hb:But [] w W')=>qbu _ f W' (hf.but hb) (lf.mono (by omega)))
have CM:=af (fun W' (hb:But [] w W') v' (hv':aq W' v' ((fl f:Int):Rat))=>zlf _ v' f _ W' (hf.but hb) hv' (lf.mono (by omega)) lfl r hr)
have HF:=af hf
have HTAB:=af htab
have HM:=af hm
have LF:=af lf
have HB:=af hB
have HS:=af hsf
have C1:Hid (P4 W w.heap.size s1 x1 y1 p1):=⟨a0,a1,a2,a3⟩
have C2:Hid (bf W (w.heap.size+1) 0):=⟨⟨false,0,0,none,⟨r0,r1,r2,r3⟩,zhn _⟩,fz⟩
clear lfl hf htab hm lf hB a0 a1 a2 a3 r0 r1 r2 r3 tA tC hr hsf fz
go_enter func243,ntmps243
go_wp2
rw[← hW]
clear hW
have ho2:w.heap.size≤w.heap.size+1:=by omega
have O2:=af ho2
have l12:w.heap.size≠w.heap.size+1:=by omega
generalize hg2:w.heap.size+1=g2 at *
generalize hg1:w.heap.size=g1 at *
refine zou 1 _ _ W s1 x1 y1 p1 r ((fl f:Int):Rat) (by simp) g1 (by simp[Act.eval]) (ae C1) (fun w' hb=>ae FL w' ((ae HB).trans' hb)) (fun w' hb v' hv'=>ae CM w' ((ae HB).trans' hb) v' hv') ?_
intro w1 v2 hb1
simp only[bj,List.foldl_cons,List.foldl_nil,Act.put,List.setIfInBounds_toArray,List.set_cons_zero,List.set_cons_succ]
rw[ae HR0]
have B1:=af ((ae HB).trans' hb1)
have K1:=af ((ae C1).but hb1 (by simp))
have K2:=af ((ae C2).but hb1)
clear hb1 C1 C2 HB FL CM HR0
by_cases hd:f.den=1
·(
rw[decide_eq_true hd]
obtain⟨ws,wx,FW,CW⟩:=zdv 1 (by omega) (by omega)
have CWH:=af CW
have FWH:=af FW
clear CW FW
obtain⟨⟨s2,x2,y2,p2,⟨c0,c1,c2,c3⟩,-⟩,z2⟩:=ae K2
go_wp2_with fail
refine (ae CWH _).mono ?_
rintro e w2 ⟨rfl,hb2⟩
have B2:=af hb2
have l2:g2<w1.heap.size:=ai c0
have z2':∀ j,w2.frozen? ⟨g2,j,none⟩=false:=fun j=>(hb2.frozen (p:=⟨g2,j,none⟩) l2 (by simp)).trans (z2 j)
replace c0:=hb2.ag c0 (by simp)
replace c1:=hb2.ag c1 (by simp)
replace c2:=hb2.ag c2 (by simp)
replace c3:=hb2.ag c3 (by simp)
clear hb2 CWH z2
have P2:Hid (P4 w2 g2 s2 x2 y2 p2):=⟨c0,c1,c2,c3⟩
go_wp2
have hP:=ax w2 g2 ws wx 0 none
obtain⟨m0,m1,m2,m3⟩:=zlv w2 g2 ws wx 0 none (ae P2)
have hF:But [] w (zbt w2 g2 ws wx 0 none):=((ae B1).trans' (ae B2)).trans hP (fun x hx=>by simp at hx;subst hx;exact .inr (by omega))
change bodyPost _ _ _ _ _ (zbt w2 g2 ws wx 0 none)
generalize zbt w2 g2 ws wx 0 none=F at *
exact bodyPost_ret (v:=.agg #[.bool ws,.int .u64 wx,.int .u64 0,.pointer none]) (by simp[results,results243,go_sem,m0,m1,m2,m3]) rfl ⟨_,rfl,by rw[hd];exact ae FWH F,hF⟩)
·(
rw[decide_eq_false hd]
obtain⟨t,ht⟩:∃ t,t=zbw (decide (f.num<0)) f.num.natAbs f.den:=⟨_,rfl⟩
obtain⟨pre,hpre,hno⟩:=qhx f hd
rw[← ht] at hpre
have hts:t.size<4294967281:=by
 have e:t.size=t.data.toList.length:=by simp
 have d1:=zgu f.den (Nat.le_trans (ae LF).2 (by omega))
 have d2:=zgu f.num.natAbs (Nat.le_trans (ae LF).1 (by omega))
 rw[e,ht]
 unfold zbw
 by_cases hs:f.num<0
 ·simp[hs,hd];omega
 ·simp[hs,hd];omega
have TX:=af (fun W' (hb:But [] w W')=>ziw _ f W' ((ae HF).but hb) ((ae LF).mono (by omega)) (TabIs.but (ae HTAB) hb) t ht)
have CU:=af (fun W' (hb:But [] w W')=>Tryz.strings_Cut t 47 pre (Lib.decDigits f.den) m W' hpre hno hts (hb.ag (ae HM) (by simp)))
obtain⟨hdg,hval,hpos⟩:=znu f.den
generalize hds:Lib.decDigits f.den=ds at *
have HDG:=af hdg
have HVAL:=af hval
have HPOS:=af hpos
obtain⟨c0,c1,c2,c3⟩:=ae K1
clear hpre hno hts ht hds hdg hval hpos HTAB HM
go_wp2_with fail
refine (ae TX _ (ae B1)).mono ?_
rintro e w2 ⟨rfl,hb2⟩
have B2:=af ((ae B1).trans' hb2)
have K2':=af ((ae K2).but hb2)
clear K2 K1 c0 c1 c2 c3 hb2 B1 TX
go_wp2_with fail
refine (ae CU _ (ae B2)).mono ?_
rintro e w3 ⟨rfl,nd,rfl⟩
have B3:Hid (But [] w (w2.drewN nd)):=(ae B2).drewN nd
have K3:=af ((ae K2').but ((But.refl [] w2).drewN nd))
generalize w2.drewN nd=w3 at *
clear B2 K2' CU
go_wp2
have V6:=af (bf.new w3 false 0 0 none 0 27 (zhn _))
have bV:But [] w3 (w3.alloc (.cells #[.bool false,.int .u64 0,.int .u64 0,.pointer none] 27)):=(But.refl _ _).alloc _
have KV:=af ((ae K3).but bV)
have BV:=af ((ae B3).trans' bV)
have o6:g2<w3.heap.size:=(ae K3).lt
have q6:w.heap.size≤w3.heap.size:=(ae B3).size
clear bV K3 B3
generalize hg6:w3.heap.size=g6 at *
generalize w3.alloc (.cells #[.bool false,.int .u64 0,.int .u64 0,.pointer none] 27)=V at *
clear hg6
go_loopw [4] (fun dv wr=>∃ (j:Nat) (td:ByteArray),dv=.string td∧j≤ds.length∧Hid (td.data.toList=ds.drop j)∧Hid (bf wr g6 (((jy (ds.take j):Nat):Int):Rat)∧bf wr g2 0∧But [] w wr)) (fun dv _=>qmm dv)
case atStart=>exact⟨0,_,rfl,Nat.zero_le _,by show _=_;simp,ae V6,ae KV,ae BV⟩
case round =>(
obtain⟨j,td,rfl,hj,HTD,HI⟩:=hrel
rename World=>wr
clear V6 KV BV
obtain⟨k,hk⟩:∃ k,k=ds.length-j:=⟨_,rfl⟩
have hsz:td.size=k:=by rw[zcd (ae HTD),List.length_drop,hk]
by_cases hlt:j<ds.length
·(
have h0:0<k:=by omega
obtain⟨n,hn⟩:∃ n,n=Nat.min k 60:=⟨_,rfl⟩
have hn60:n≤60:=by rw[hn];exact Nat.min_le_right _ _
have hnk:n≤k:=by rw[hn];exact Nat.min_le_left _ _
have hn1:0<n:=by rw[hn];exact Nat.lt_min.2 ⟨h0,by omega⟩
have hmin:min (k:Int) 60=(n:Int):=by
 have e:n=min k 60:=hn
 omega
have HK:=af hk
have hnj:j+n≤ds.length:=by omega
have e1:(td.extract 0 n).data.toList=(ds.drop j).take n:=by
 rw[← ae HTD]
 simp[ByteArray.data_extract,List.extract_eq_take_drop]
have e2:(td.extract n k).data.toList=ds.drop (j+n):=by
 rw[← List.drop_drop,← ae HTD]
 simp only[ByteArray.data_extract,List.extract_eq_take_drop,Array.toList_extract]
 exact List.take_of_length_le (by rw[List.length_drop];have:=zcd (t:=td) rfl;omega)
have E2:=af e2
have lp:((ds.drop j).take n).length=n:=by rw[List.length_take,List.length_drop];omega
have LPc:=af lp
have dp:zat ((ds.drop j).take n):=fun x hx=>ae HDG x (List.mem_of_mem_drop (List.mem_of_mem_take hx))
have PA:=af (fun W=>ztk (td.extract 0 n) false ((ds.drop j).take n) W (by rw[e1];rfl) dp (by omega) (by omega) _ (qfo (jy ((ds.drop j).take n))))
obtain⟨ws,wx,FW,CW⟩:=zdv 10 (by omega) (by omega)
have CWH:=af CW
have PW:=af (fun W=>zwy _ _ n W (FW W) (by omega) ((zio 10 (by decide)).mono (by omega)))
have H6:=af (ae HI).1
have H2:=af (ae HI).2.1
have HBW:=af (ae HI).2.2
clear hn hk e1 e2 lp dp CW HI
go_wp2_with fail
refine (ae PA _).mono ?_
rintro e w4 ⟨v4,rfl,hv4,hb4⟩
obtain⟨x4,y4,p4,rfl,-⟩:=id hv4.agg
generalize hs4:decide ((((jy ((ds.drop j).take n):Nat):Int):Rat).num<0)=s4 at *
clear hs4
have B4:=af hb4
have HV4:=af hv4
have A4:=af (bf.new w4 s4 x4 y4 p4 _ 27 hv4)
have bA4:Hid (But [] w4 (w4.alloc (.cells #[.bool s4,.int .u64 x4,.int .u64 y4,.pointer p4] 27))):=(But.refl _ _).alloc _
clear hv4 hb4 PA
go_wp2_with fail
refine (ae CWH _).mono ?_
rintro e w5 ⟨rfl,hb5⟩
have B5:=af hb5
clear hb5 CWH
go_wp2_with fail
refine (ae PW _).mono ?_
rintro e w6 ⟨v6,rfl,hv6,hb6⟩
obtain⟨x6,y6,p6,rfl,-⟩:=id hv6.agg
generalize hs6:decide ((qy ((10:Int):Rat) n).num<0)=s6 at *
clear hs6
rw[qib] at hv6
have B6:=af hb6
have A6:=af (bf.new w6 s6 x6 y6 p6 _ 27 hv6)
have bA6:Hid (But [] w6 (w6.alloc (.cells #[.bool s6,.int .u64 x6,.int .u64 y6,.pointer p6] 27))):=(But.refl _ _).alloc _
clear hv6 hb6 PW
go_wp2
obtain⟨U,hU⟩:∃ U,U=w6.alloc (.cells #[.bool s6,.int .u64 x6,.int .u64 y6,.pointer p6] 27):=⟨_,rfl⟩
rw[← hU] at A6 bA6
rw[← hU]
have b46:But [] (w4.alloc (.cells #[.bool s4,.int .u64 x4,.int .u64 y4,.pointer p4] 27)) U:=((ae B5).trans' (ae B6)).trans' (ae bA6)
have bU:But [] wr U:=((ae B4).trans' (ae bA4)).trans' b46
have BU:=af bU
have D8:=af ((ae A4).but b46)
have D6:=af ((ae H6).but bU)
have D2:=af ((ae H2).but bU)
have DB:=af ((ae HBW).trans' bU)
have l8:g6<w4.heap.size:=Nat.lt_of_lt_of_le (ae H6).lt (ae B4).size
generalize hg8:w4.heap.size=g8 at *
generalize hg10:w6.heap.size=g10 at *
clear hU B4 bA4 A4 B5 B6 bA6 b46 bU H6 H2 HBW hg8 hg10 HV4
obtain⟨⟨t6,a6,b6,q6',c6,hf6⟩,z6⟩:=ae D6
obtain⟨⟨t8,a8,b8,q8,c8,hf8⟩,-⟩:=ae D8
obtain⟨⟨t10,a10,b10,q10,c10,hf10⟩,-⟩:=ae A6
have ltk:=zqa ds j
have ltn:=zqa ds (j+n)
have stp:=zzw ds j n
rw[ae LPc] at stp
have lden:(wd 18446744073709551616 (jy ds)).length≤400000:=by rw[ae HVAL];exact (ae LF).2
have ten4:Len (((10^n:Nat):Int):Rat) 1000000:=zep (10^n) (10^60) (Nat.pow_le_pow_right (by omega) hn60) (Nat.le_trans (aj (by omega) _ 4 (by decide)) (by omega)) (by omega)
have lmul:Len ((((jy (ds.take j):Nat):Int):Rat)*(((10^n:Nat):Int):Rat)) 400000:=by
 have e:(((jy (ds.take j):Nat):Int):Rat)*(((10^n:Nat):Int):Rat)=(((jy (ds.take j)*10^n:Nat):Int):Rat):=by simp
 rw[e]
 exact zep _ (jy ds) (by omega) lden (by omega)
refine zot 9 _ _ U t6 a6 b6 q6' t10 a10 b10 q10 t8 a8 b8 q8 _ _ _ g6 g8 g10 (by simp) (by simp[Act.eval]) c6 z6 (by simp[Act.eval]) (by simp[Act.eval]) c6 c10 c8 (fun w' hb=>j6 _ _ _ _ w' (hf6.but hb) (hf10.but hb) (zep _ (jy ds) ltk (Nat.le_trans lden (by omega)) (by omega)) ten4) (fun w' hb v' hv'=>zdn 400000 400000 (by omega) _ _ _ _ w' hv' (hf8.but hb) lmul (zep _ (jy ds) (by omega) lden (by omega))) ?_
intro w7 v2' s7 x7 y7 p7 hb7 hf7
simp only[bj,List.foldl_cons,List.foldl_nil,Act.put,List.setIfInBounds_toArray,List.set_cons_zero,List.set_cons_succ]
rw[qfn _ _ _ _ stp] at hf7
have hP:=ax w7 g6 s7 x7 y7 p7
have J6:=af (((ae D6).but hb7).put hf7)
have J2:=af (((ae D2).but hb7).beside hP (by simp;omega) (fun g hg=>by simp at hg;subst hg;exact ((ae D6).but hb7).bool))
have JB:=af (((ae DB).trans' hb7).trans hP (fun x hx=>by simp at hx;subst hx;exact .inr q6))
generalize zbt w7 g6 s7 x7 y7 p7=V7 at *
clear hP hf7 hb7 D6 D2 DB D8 A6 c6 c8 c10 hf6 hf8 hf10 z6 ltk ltn stp lden ten4 lmul BU
go_wp2
refine⟨⟨j+n,_,rfl,hnj,E2,ae J6,ae J2,ae JB⟩,?_⟩
show (td.extract n k).size<td.size
have hx:=zcd (ae E2)
rw[List.length_drop] at hx
have:=ae HK
omega)
·(
obtain rfl:j=ds.length:=by omega
have k0:k=0:=by omega
obtain⟨⟨⟨t6,a6,b6,q6',⟨d0,d1,d2,d3⟩,hf6⟩,z6⟩,⟨⟨t2,a2,b2,q2,⟨c0,c1,c2,c3⟩,-⟩,z2⟩,hbw⟩:=ae HI
rw[List.take_length,ae HVAL] at hf6
have HF6:=af hf6
have HBW:=af hbw
have P2:Hid (P4 wr g2 t2 a2 b2 q2):=⟨c0,c1,c2,c3⟩
clear HI hf6 hbw hk
go_wp2
have hP:=ax wr g2 t6 a6 b6 q6'
obtain⟨m0,m1,m2,m3⟩:=zlv wr g2 t6 a6 b6 q6' (ae P2)
have hF:But [] w (zbt wr g2 t6 a6 b6 q6'):=(ae HBW).trans hP (fun x hx=>by simp at hx;subst hx;exact .inr (by omega))
have hff:=(ae HF6).over (ae P2).1 hP
change bodyPost _ _ _ _ _ (zbt wr g2 t6 a6 b6 q6')
generalize zbt wr g2 t6 a6 b6 q6'=F at *
exact bodyPost_ret (v:=.agg #[.bool t6,.int .u64 a6,.int .u64 b6,.pointer q6']) (by simp[results,results243,go_sem,m0,m1,m2,m3]) rfl ⟨_,rfl,hff,hF⟩))))
def yt (U:Nat) (f:Rat):Nat:=U*(f*(((U:Nat):Int):Rat)).den
def qh (U:Nat) (fs:List Rat):Nat:=fs.foldl yt U
theorem zgd (U:Nat) (xs ys:List Rat):qh U (xs++ys)=qh (qh U xs) ys:=List.foldl_append
theorem qce (U:Nat) (fs:List Rat) (k:Nat) (hk:k<fs.length):qh U (fs.take (k+1))=yt (qh U (fs.take k)) (fs[k]?.getD 0):=by
 rw[List.take_add_one,List.getElem?_eq_getElem hk,zgd]
 rfl
theorem zzs (f:Rat) (U:Nat):(f*(((U:Nat):Int):Rat)).den ∣ f.den:=by(
have hc:=zcf f (((U:Nat):Int):Rat)
obtain⟨e1,e2⟩:=bk (U:Int)
rw[e1,e2,Nat.mul_one] at hc
have hr:Nat.Coprime (f*(((U:Nat):Int):Rat)).num.natAbs (f*(((U:Nat):Int):Rat)).den:=(f*(((U:Nat):Int):Rat)).reduced
have h2:(f*(((U:Nat):Int):Rat)).num.natAbs*f.den=(f.num*(U:Int)).natAbs*(f*(((U:Nat):Int):Rat)).den:=by
 have:=congrArg Int.natAbs hc
 rw[Int.natAbs_mul,Int.natAbs_mul,Int.natAbs_natCast,Int.natAbs_natCast] at this
 exact this
exact Nat.Coprime.dvd_of_dvd_mul_left hr.symm ⟨(f.num*(U:Int)).natAbs,by rw[h2,Nat.mul_comm]⟩)
theorem zjf (c:Nat):∀ (fs:List Rat) (U:Nat),(∀ f ∈ fs,Len f c)→(wd 18446744073709551616 (qh U fs)).length≤(wd 18446744073709551616 U).length+fs.length*c
 | [],U,_=>by simp[qh]
 | f::fs,U,h=>by
  have ih:=zjf c fs (yt U f) (fun g hg=>h g (by simp[hg]))
  have hd:=Nat.le_of_dvd (den_pos f) (zzs f U)
  have h1:(wd 18446744073709551616 (yt U f)).length≤(wd 18446744073709551616 U).length+c:=by
   unfold yt
   exact Nat.le_trans (qz _ _) (Nat.add_le_add_left (Nat.le_trans (av hd) (h f (by simp)).2) _)
  show (wd 18446744073709551616 (qh (yt U f) fs)).length≤_
  rw[List.length_cons,Nat.succ_mul]
  omega
theorem zxf (v:Value) (ls:List (List Rat)) (w:World) (m:Int) (c:Nat) (hv:zjj w v ls) (hn:ls.length≤100000) (hl:∀ l ∈ ls,l.length≤100000) (lf:∀ l ∈ ls,∀ f ∈ l,Len f c) (hc:ls.flatten.length*c+1≤200000) (hc1:c≤100000) (htab:Lib.TabIs prog w "internal/strconv.uint64pow10" .u64 Lib.pow10Tab) (hm:w.cell? ⟨5,0,none⟩=some (.int .i64 m)) :
  Calls prog 190 #[v] w fun e w'=>∃ v',e=.returned v'∧aq w' v' (((qh 1 ls.flatten:Nat):Int):Rat)∧But [] w w':=by(
obtain⟨q,cap,rfl,hcap,-⟩:=id hv
obtain⟨n,hN⟩:∃ n,n=ls.length:=⟨_,rfl⟩
rw[← hN] at hn hcap ⊢
rw[← hN] at hv
have HV:=af hv
have HN:=af hN
have HTAB:=af htab
have HM:=af hm
obtain⟨ws,wx,FW,CW⟩:=zdv 1 (by omega) (by omega)
have CWH:=af CW
have FWH:=af FW
clear hv hN htab hm CW FW
have bA:But [] w (w.alloc (.cells #[.bool false,.int .u64 0,.int .u64 0,.pointer none] 27)):=(But.refl _ _).alloc _
have xA:=bf.new w false 0 0 none 0 27 (zhn _)
have BA:=af bA
have XA:=af xA
clear bA xA
go_enter func190,ntmps190
go_wp2_with fail
refine (ae CWH _).mono ?_
rintro e w1 ⟨rfl,hb1⟩
have B1:=af ((ae BA).trans' hb1)
have X2:=af ((ae XA).but hb1)
clear hb1 BA XA CWH
go_wp2
have x3:=bf.new w1 ws wx 0 none _ 27 (ae FWH w1)
have bV:But [] w1 (w1.alloc (.cells #[.bool ws,.int .u64 wx,.int .u64 0,.pointer none] 27)):=(But.refl _ _).alloc _
have X3:=af x3
have Y2:=af ((ae X2).but bV)
have BV:=af ((ae B1).trans' bV)
have o3:w.heap.size<w1.heap.size:=(ae X2).lt
clear x3 bV X2 B1
generalize hg3:w1.heap.size=g3 at *
generalize hg2:w.heap.size=g2 at *
generalize w1.alloc (.cells #[.bool ws,.int .u64 wx,.int .u64 0,.pointer none] 27)=V at *
clear hg3
go_loopw [11] (fun iv wr=>∃ i:Nat,i≤n∧iv=.int .i64 (i:Int)∧Hid (bf wr g3 (((qh 1 (ls.take i).flatten:Nat):Int):Rat)∧bf wr g2 0∧But [] w wr)) (fun iv _=>n-(intOf iv).toNat)
case atStart=>exact⟨0,Nat.zero_le _,rfl,ae X3,ae Y2,ae BV⟩
case round =>(
obtain⟨i,hi,rfl,HI⟩:=hrel
rename World=>wr
clear X3 Y2 BV
by_cases hlt:i<n
·(
have hil:i<ls.length:=by have:=ae HN;omega
obtain⟨b,off,u,rfl,hcu,hfu⟩:=(ae HV).get i hil
replace hcu:=(ae HI).2.2.ag hcu (by simp)
obtain⟨l,hL⟩:∃ l,l=ls[i]?.getD []:=⟨_,rfl⟩
rw[← hL] at hfu
have hmem:l ∈ ls:=by rw[hL,List.getElem?_eq_getElem hil];exact List.getElem_mem hil
have hll:=hl l hmem
have LFL:=af (lf l hmem)
have htk:(ls.take (i+1)).flatten=(ls.take i).flatten++l:=by
 have e:ls[i]? = some l:=by rw[hL,List.getElem?_eq_getElem hil];rfl
 rw[List.take_add_one,e]
 simp
have hln:((ls.take i).flatten.length+l.length)*c+1≤200000:=by
 have h1:((ls.take i).flatten++l).length≤ls.flatten.length:=by
  rw[← htk]
  have e:ls.flatten=(ls.take (i+1)).flatten++(ls.drop (i+1)).flatten:=by rw[← List.flatten_append,List.take_append_drop]
  rw[e,List.length_append]
  omega
 rw[List.length_append] at h1
 exact Nat.le_trans (Nat.add_le_add_right (Nat.mul_le_mul_right c h1) 1) hc
have LFT:Hid (∀ f ∈ (ls.take i).flatten,Len f c):=fun f hf=>by
 obtain⟨l',h1,h2⟩:=List.mem_flatten.1 hf
 exact lf l' (List.mem_of_mem_take h1) f h2
obtain⟨qu,cu,rfl,hcu2,-⟩:=id hfu
obtain⟨k,hk⟩:∃ k,k=l.length:=⟨_,rfl⟩
rw[← hk] at hfu hcu hcu2 hll hln
have HFU:=af hfu
have HTK:=af htk
have HLN:=af hln
have HK:=af hk
clear hfu hL hk htk hln hmem
go_wp2
clear hcu
go_loopw [17] (fun jv wx=>∃ j:Nat,j≤k∧jv=.int .i64 (j:Int)∧Hid (bf wx g3 (((qh (qh 1 (ls.take i).flatten) (l.take j):Nat):Int):Rat)∧bf wx g2 0∧But [] w wx)) (fun jv _=>k-(intOf jv).toNat)
case atStart=>exact⟨0,Nat.zero_le _,rfl,(ae HI).1,(ae HI).2.1,(ae HI).2.2⟩
case round =>(
obtain⟨j,hj,rfl,HJ⟩:=hrel
rename World=>wx
clear HI
by_cases hjt:j<k
·(
have hjl:j<l.length:=by have:=ae HK;omega
have hfx:=(ae HFU).but (ae HJ).2.2
rcases hfx.open with ⟨er,-⟩|⟨-,rb,roff,rcap2,er,-,-⟩
·rw[er] at hjl
 simp at hjl
simp only[Value.slice.injEq] at er
obtain⟨rfl,-,rfl⟩:=er
obtain⟨sr,xr,yr,pr,⟨r0,r1,r2,r3⟩,hfr⟩:=hfx.get j hjt
have HFR:=af hfr
clear hfx hfr
go_wp2
have bA:But [] wx (wx.alloc (.cells #[.bool sr,.int .u64 xr,.int .u64 yr,.pointer pr] 27)):=(But.refl _ _).alloc _
have x7:=bf.new wx sr xr yr pr _ 27 (ae HFR)
have D3:=af ((ae HJ).1.but bA)
have D2:=af ((ae HJ).2.1.but bA)
have DB:=af ((ae HJ).2.2.trans' bA)
have X7:=af x7
clear bA x7 HFR r0 r1 r2 r3 HJ
generalize wx.heap.size=g7 at *
generalize wx.alloc (.cells #[.bool sr,.int .u64 xr,.int .u64 yr,.pointer pr] 27)=U at *
obtain⟨⟨t3,a3,b3,q3,c3,hf3⟩,z3⟩:=ae D3
obtain⟨⟨t7,a7,b7,q7,c7,hf7⟩,-⟩:=ae X7
obtain⟨A,hA⟩:∃ A,A=qh (qh 1 (ls.take i).flatten) (l.take j):=⟨_,rfl⟩
have hstep:=qce (qh 1 (ls.take i).flatten) l j hjl
rw[← hA] at hf3 hstep
obtain⟨f,hff⟩:∃ f,f=l[j]?.getD 0:=⟨_,rfl⟩
rw[← hff] at hf7 hstep
have lff:Len f c:=by rw[hff,List.getElem?_eq_getElem hjl];exact ae LFL _ (List.getElem_mem hjl)
have lA:(wd 18446744073709551616 A).length≤200000:=by
 rw[hA,← zgd]
 refine Nat.le_trans (zjf c _ 1 (fun g hg=>?_)) ?_
 ·rcases List.mem_append.1 hg with h1 | h1
  ·exact ae LFT g h1
  ·exact ae LFL g (List.mem_of_mem_take h1)
 ·have h1:(wd 18446744073709551616 1).length≤1:=aj (by omega) _ 1 (by omega)
  have h2:((ls.take i).flatten++l.take j).length*c≤((ls.take i).flatten.length+k)*c:=Nat.mul_le_mul_right c (by rw[List.length_append,List.length_take];omega)
  have:=ae HLN
  omega
have lu:Len (((A:Nat):Int):Rat) 200000:=zep A A (Nat.le_refl _) lA (by omega)
have lfu:Len (f*(((A:Nat):Int):Rat)) 400000:=zbv (lff.mono hc1) lu 400000 (by omega)
have lz:Len ((((f*(((A:Nat):Int):Rat)).den:Nat):Int):Rat) 1000000:=zep _ _ (Nat.le_refl _) (Nat.le_trans lfu.2 (by omega)) (by omega)
refine zoz 8 _ _ U t3 a3 b3 q3 t7 a7 b7 q7 _ _ ((((f*(((A:Nat):Int):Rat)).den:Nat):Int):Rat) g3 g7 (by simp) (by simp[Act.eval]) c3 z3 (by simp[Act.eval]) c3 c7 (fun w' hb=>j6 _ _ _ _ w' (hf7.but hb) (hf3.but hb) (lff.mono (by omega)) (lu.mono (by omega))) (fun w' hb v' hv'=>qbl v' _ w' m hv' lfu (TabIs.but (ae HTAB) ((ae DB).trans' hb)) (((ae DB).trans' hb).ag (ae HM) (by simp))) (fun w' hb v' hv'=>j6 _ _ _ _ w' (hf3.but hb) hv' (lu.mono (by omega)) lz) ?_
intro w7 v3' v4' s7 x7 y7 p7 hb7 hfz
simp only[bj,List.foldl_cons,List.foldl_nil,Act.put,List.setIfInBounds_toArray,List.set_cons_zero,List.set_cons_succ]
have ez:(((A:Nat):Int):Rat)*((((f*(((A:Nat):Int):Rat)).den:Nat):Int):Rat)=(((yt A f:Nat):Int):Rat):=by unfold yt;simp
rw[ez,← hstep] at hfz
have hP:=ax w7 g3 s7 x7 y7 p7
have J3:=af (((ae D3).but hb7).put hfz)
have J2:=af (((ae D2).but hb7).beside hP (by simp;omega) (fun g hg=>by simp at hg;subst hg;exact ((ae D3).but hb7).bool))
have JB:=af (((ae DB).trans' hb7).trans hP (fun x hx=>by simp at hx;subst hx;exact .inr (by omega)))
generalize zbt w7 g3 s7 x7 y7 p7=V7 at *
clear hP hfz hb7 D3 D2 DB X7 c3 c7 hf3 hf7 z3 ez lz lfu lu lA lff hstep
go_wp2
exact⟨⟨j+1,by omega,by go_num,ae J3,ae J2,ae JB⟩,by simp[intOf];omega⟩)
·(
obtain rfl:j=k:=by omega
go_wp2
refine⟨⟨i+1,by omega,by go_num,?_,(ae HJ).2.1,(ae HJ).2.2⟩,by simp[intOf];omega⟩
have hx:=(ae HJ).1
rw[ae HK,List.take_length,← zgd,← ae HTK] at hx
exact hx)))
·(
obtain rfl:i=n:=by omega
obtain⟨⟨⟨t6,a6,b6,q6',⟨d0,d1,d2,d3⟩,hf6⟩,z6⟩,⟨⟨t2,a2,b2,q2,⟨c0,c1,c2,c3⟩,-⟩,z2⟩,hbw⟩:=ae HI
rw[ae HN,List.take_length] at hf6
have HF6:=af hf6
have HBW:=af hbw
have P2:Hid (P4 wr g2 t2 a2 b2 q2):=⟨c0,c1,c2,c3⟩
clear HI hf6 hbw
go_wp2
have hP:=ax wr g2 t6 a6 b6 q6'
obtain⟨m0,m1,m2,m3⟩:=zlv wr g2 t6 a6 b6 q6' (ae P2)
have hF:But [] w (zbt wr g2 t6 a6 b6 q6'):=(ae HBW).trans hP (fun x hx=>by simp at hx;subst hx;exact .inr (by omega))
have hff:=(ae HF6).over (ae P2).1 hP
change bodyPost _ _ _ _ _ (zbt wr g2 t6 a6 b6 q6')
generalize zbt wr g2 t6 a6 b6 q6'=F at *
exact bodyPost_ret (v:=.agg #[.bool t6,.int .u64 a6,.int .u64 b6,.pointer q6']) (by simp[results,results190,go_sem,m0,m1,m2,m3]) rfl ⟨_,rfl,hff,hF⟩)))
theorem zvb:∀ (fs:List Rat) (U:Nat),∃ k,qh U fs=U*k
 | [],U=>⟨1,by rw[Nat.mul_one];rfl⟩
 | f::fs,U=>by
  obtain⟨k,hk⟩:=zvb fs (yt U f)
  exact⟨(f*(((U:Nat):Int):Rat)).den*k,by
   show qh (yt U f) fs=_
   rw[hk]
   unfold yt
   rw[Nat.mul_assoc]⟩
theorem zqh:∀ (fs:List Rat) (U:Nat) (f:Rat),f ∈ fs→∃ z:Int,f*(((qh U fs:Nat):Int):Rat)=((z:Int):Rat)
 | [],_,f,h=>by simp at h
 | g::fs,U,f,h=>by
  rcases List.mem_cons.1 h with rfl | h2
  ·obtain⟨k,hk⟩:=zvb fs (yt U f)
   refine⟨(f*(((U:Nat):Int):Rat)).num*(k:Int),?_⟩
   show f*(((qh (yt U f) fs:Nat):Int):Rat)=_
   have e:=zlu (f*(((U:Nat):Int):Rat))
   rw[hk]
   unfold yt
   rw[Int.natCast_mul,Int.natCast_mul,Rat.intCast_mul,Rat.intCast_mul,Rat.intCast_mul,← e]
   grind
  ·exact zqh fs (yt U g) f h2
theorem zze:∀ (fs:List Rat) (U:Nat),0<U→0<qh U fs
 | [],_,h=>h
 | f::fs,U,h=>zze fs (yt U f) (Nat.mul_pos h (den_pos _))
theorem zpz {qs:List (Int × Int)} (hf:∀ q ∈ qs,Fits q):∀ r ∈ qs.map qf,Len r 1:=fun r hr=>by
 obtain⟨q,hq,rfl⟩:=List.mem_map.1 hr
 obtain⟨-,-,-,h,-⟩:=zpm q (hf q hq)
 exact h
theorem zic (v:Value) (qs:List (Int × Int)) (w:World) (hq:zsd w v qs) (hf:∀ q ∈ qs,Fits q) (hn:qs.length≤1000) :
  Calls prog 19 #[v] w fun e w'=>∃ v',e=.returned v'∧au w' v' (qs.map qf)∧But [] w w':=by(
have FS:=af (zti v qs w hq hf hn)
obtain⟨a,cap,rfl,-,-⟩:=hq
clear hf
go_enter func19,ntmps19
go_wp2_with fail
refine (ae FS).mono ?_
rintro e w1 ⟨v',vs,rfl,hh,hb⟩
have H1:=af hh
have B1:=af hb
clear hh hb
go_wp2
go_ret
exact⟨_,rfl,(ae H1).zcq,ae B1⟩)
theorem zcv {fs:List Rat} (h:jo fs=0):0<fs.length∧fs.length≤201∧(∀ f ∈ fs,0≤f)∧zdr fs=1:=by(
unfold jo at h
by_cases h1:fs.length<1∨201<fs.length
·rw[if_pos h1] at h;simp at h
·(
rw[if_neg h1] at h
by_cases h2:fs.any (fun f=>decide (f.num<0))=true
·rw[if_pos h2] at h;simp at h
·(
rw[if_neg h2] at h
by_cases h3:zdr fs=1
·(
refine⟨by omega,by omega,fun f hf=>?_,h3⟩
have h4:fs.any (fun f=>decide (f.num<0))=false:=by simpa using h2
rw[List.any_eq_false] at h4
have:=h4 f hf
simp at this
exact this)
·rw[if_neg h3] at h;simp at h)))
end Go.Proofs.YtpmjeclpkahkmaaGreatDoor
