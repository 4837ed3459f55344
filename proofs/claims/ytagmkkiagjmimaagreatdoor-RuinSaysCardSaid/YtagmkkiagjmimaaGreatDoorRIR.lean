/- Out of OG: what needs no more than these -/
import Derived.Test.YtagmkkiagjmimaaGreatDoorProg
import Derived.RangeFuncNested
import Derived.RangeFuncBound
import Derived.RangeFuncCalls
import Derived.RangeFuncLeaves
import Derived.Shelf.Abstract
import Derived.Shelf.RegionOpen
import Derived.WalkKit
import Derived.OwnWalkIn
import Derived.TacticsInMore
import Derived.LoopNIn
import Derived.LoopIn
import Derived.Test.YtagmkkiagjmimaaGreatDoorREKs
import Derived.Test.YtagmkkiagjmimaaGreatDoorRK5r
import Derived.Test.YtagmkkiagjmimaaGreatDoorRPK
import Derived.Test.YtagmkkiagjmimaaGreatDoorRQ5
namespace Go.Proofs.YtagmkkiagjmimaaGreatDoor
open Go.Proofs.Tryz
open Go.RowKit
set_option maxHeartbeats 16000000
set_option maxRecDepth 100000
set_option linter.unusedVariables false
theorem zim (n:Nat) (h:1≤n):Len 0 n:=⟨Nat.le_trans (aj (by omega) _ 1 (by decide)) h,Nat.le_trans (aj (by omega) _ 1 (by decide)) h⟩
def atR (fs:List Rat) (k:Nat):Rat:=fs[k]?.getD 0
theorem qjd (x y:Rat) (r:Int) (hr:r=zbc (x.num*(y.den:Int)) (y.num*(x.den:Int))):(r != 0)=!decide (x=y):=by(
have h1:r=0↔x=y:=by
 have hle:x.num*(y.den:Int)=y.num*(x.den:Int)↔x=y:=by
  constructor
  ·intro h
   exact Rat.le_antisymm ((Rat.le_iff _ _).2 (by omega)) ((Rat.le_iff _ _).2 (by omega))
  ·intro h
   rw[h]
 rw[← hle,hr]
 unfold zbc
 constructor
 ·intro h
  split at h
  ·omega
  ·split at h
   ·assumption
   ·omega
 ·intro h
  rw[if_neg (by omega),if_pos h]
by_cases h:x=y
·rw[h1.2 h,decide_eq_true h];rfl
·rw[decide_eq_false h]
 have h2:r≠0:=fun e=>h (h1.1 e)
 simpa using h2)
def zdd (fs:List Rat):Rat:=fs.foldl (fun s f=>s+f) 0
theorem zfv (fs:List Rat) (k:Nat) (hk:k<fs.length):zdd (fs.take (k+1))=zdd (fs.take k)+fs[k]?.getD 0:=by(
unfold zdd
rw[List.take_add_one,List.getElem?_eq_getElem hk,List.foldl_append]
rfl)
theorem znj (c:Nat) (fs:List Rat) (h:∀ f ∈ fs,Len f c):∀ k,k≤fs.length→Len (zdd (fs.take k)) (k*(c+1)+1)
 | 0,_=>by
  rw[List.take_zero]
  exact zim _ (by omega)
 | k+1,hk=>by
  have ih:=znj c fs h k (by omega)
  rw[zfv fs k (by omega),List.getElem?_eq_getElem (by omega)]
  exact zsf ih (h _ (List.getElem_mem (by omega))) _ (by rw[Nat.succ_mul];omega)
def ol (fs:List Rat):Int:=if fs.length<1∨201<fs.length then 4 else if fs.any (fun f=>decide (f.num<0)) then 1 else if zdd fs=1 then 0 else 10
theorem zio (v:Value) (fs:List Rat) (c:Nat) (w:World) (hv:aq w v fs) (hn:fs.length≤1000) (lf:∀ f ∈ fs,Len f c) (hc:c≤100) :
  Calls prog 43 #[v] w fun e w'=>e=.returned (zju (ol fs))∧But [] w w':=by(
obtain⟨q,cap,rfl,hcap,-⟩:=id hv
obtain⟨n,hN⟩:∃ n,n=fs.length:=⟨_,rfl⟩
rw[← hN] at hn hcap ⊢
rw[← hN] at hv
have HV:=af hv
have HN:=af hN
clear hv hN
obtain⟨ce,hce⟩:∃ ce,ce=ol fs:=⟨_,rfl⟩
rw[← hce]
have HCE:=af hce
clear hce
go_enter func43,ntmps43
by_cases h0:n<1
·(
obtain rfl:n=0:=by omega
have e4:ce=4:=by rw[ae HCE];unfold ol;rw[if_pos (.inl (by have:=ae HN;omega))]
subst e4
go_wp2
go_ret
exact⟨rfl,But.refl _ _⟩)
·(
by_cases h1:201<n
·(
have e4:ce=4:=by rw[ae HCE];unfold ol;rw[if_pos (.inr (by have:=ae HN;omega))]
subst e4
go_wp2
go_ret
exact⟨rfl,But.refl _ _⟩)
·(
go_wp2
have x3:=az.new w false 0 0 none 0 27 (dz _)
have bV:But [] w (w.alloc (.cells #[.bool false,.int .u64 0,.int .u64 0,.pointer none] 27)):=(But.refl _ _).alloc _
have X3:=af x3
have BV:=af bV
clear x3 bV
have q3:w.heap.size≤w.heap.size:=Nat.le_refl _
generalize hg3:w.heap.size=g3 at X3
have Q3:Hid (w.heap.size≤g3):=by show _≤_;omega
clear hg3 q3
generalize w.alloc (.cells #[.bool false,.int .u64 0,.int .u64 0,.pointer none] 27)=V at *
go_loopw [17] (fun iv wr=>∃ k:Nat,k≤n∧iv=.int .i64 (k:Int)∧Hid ((∀ f ∈ fs.take k,¬ f.num<0)∧az wr g3 (zdd (fs.take k))∧But [] w wr)) (fun iv _=>n-(intOf iv).toNat)
case atStart=>exact⟨0,Nat.zero_le _,rfl,fun f hf=>by simp at hf,ae X3,ae BV⟩
case round =>(
obtain⟨k,hk,rfl,HI⟩:=hrel
rename World=>wr
clear X3 BV
by_cases hlt:k<n
·(
have hkl:k<fs.length:=by have:=ae HN;omega
have hfx:=(ae HV).but (ae HI).2.2
rcases hfx.open with ⟨er,-⟩|⟨-,rb,roff,rcap2,er,-,-⟩
·rw[er] at hkl
 simp at hkl
simp only[Value.slice.injEq] at er
obtain⟨rfl,-,rfl⟩:=er
obtain⟨sr,xr,yr,pr,⟨r0,r1,r2,r3⟩,hfr⟩:=hfx.get k hlt
obtain⟨f,hff⟩:∃ f,f=fs[k]?.getD 0:=⟨_,rfl⟩
rw[← hff] at hfr
have hmem:f ∈ fs:=by rw[hff,List.getElem?_eq_getElem hkl];exact List.getElem_mem hkl
have bA:But [] wr (wr.alloc (.cells #[.bool sr,.int .u64 xr,.int .u64 yr,.pointer pr] 27)):=(But.refl _ _).alloc _
have BA:=af bA
have x5:=az.new wr sr xr yr pr _ 27 hfr
have X5:=af x5
have SG:=af (fun W (h:But [] wr W)=>ni _ f W (hfr.but h))
have HFR:=af hfr
have HFF:=af hff
clear hfx hfr bA x5 hff
by_cases hneg:f.num<0
·(
have e1:ce=1:=by
 rw[ae HCE];unfold ol
 rw[if_neg (by have:=ae HN;omega),if_pos (List.any_eq_true.2 ⟨f,hmem,decide_eq_true hneg⟩)]
subst e1
rw[Int.sign_eq_neg_one_of_neg hneg] at SG
go_wp2_with fail
refine (ae SG _ (ae BA)).mono ?_
rintro e w1 ⟨rfl,hb1⟩
have B1:Hid (But [] w w1):=((ae HI).2.2.trans' (ae BA)).trans' hb1
clear hb1
go_wp2
go_ret
exact⟨rfl,ae B1⟩)
·(
have hsg:0≤f.num.sign:=by
 rcases Int.lt_trichotomy f.num 0 with h | h | h
 ·omega
 ·rw[h];decide
 ·rw[Int.sign_eq_one_of_pos h];decide
obtain⟨sg,hsgn⟩:∃ sg,sg=f.num.sign:=⟨_,rfl⟩
rw[← hsgn] at SG hsg
clear hsgn
go_wp2_with fail
refine (ae SG _ (ae BA)).mono ?_
rintro e w1 ⟨rfl,hb1⟩
have B01:=af ((ae BA).trans' hb1)
have X51:=af ((ae X5).but hb1)
have X31:=af ((ae HI).2.1.but (ae B01))
have B1:=af ((ae HI).2.2.trans' (ae B01))
have L5:g3<wr.heap.size:=(ae HI).2.1.lt
clear hb1 SG X5 r0 r1 r2 r3
generalize wr.heap.size=g5 at *
obtain⟨⟨t3,a3,b3,q3,⟨c0,c1,c2,c3⟩,hf3⟩,z3⟩:=ae X31
obtain⟨⟨t5,a5,b5,q5,⟨d0,d1,d2,d3⟩,hf5⟩,-⟩:=ae X51
have ls:=znj c fs lf k (by omega)
have hkc:k*(c+1)≤1000*101:=Nat.mul_le_mul (by omega) (by omega)
have AD:=af (znq (zba 200000 200000 (by omega) _ _ _ _ w1 hf3 hf5 (ls.mono (by omega)) ((lf f hmem).mono (by omega))))
clear hf3 hf5 ls hkc X51
go_wp2_with fail
refine (ae AD).mono ?_
rintro e w2 ⟨s7,x7,y7,p7,rfl,hf7,hb7⟩
have stp:=zfv fs k hkl
rw[← ae HFF] at stp
rw[← stp] at hf7
have l31:g3<w1.heap.size:=ai c0
have z3':∀ j,w2.frozen? ⟨g3,j,none⟩=false:=fun j=>(hb7.frozen (p:=⟨g3,j,none⟩) l31 (by simp)).trans (z3 j)
replace c0:=hb7.ag c0 (by simp)
replace c1:=hb7.ag c1 (by simp)
replace c2:=hb7.ag c2 (by simp)
replace c3:=hb7.ag c3 (by simp)
have D3:=af ((ae X31).but hb7)
have B2:=af ((ae B1).trans' hb7)
have HF7:=af hf7
clear hf7 hb7 AD d0 d1 d2 d3 X31 B1 B01 z3 stp
go_wp2
have hP:=aw w2 g3 s7 x7 y7 p7
refine⟨⟨k+1,by omega,by go_num,fun f' hf'=>?_,(ae D3).put (ae HF7),(ae B2).trans hP (fun x hx=>by simp at hx;subst hx;exact .inr (ae Q3))⟩,by simp[intOf];omega⟩
rw[List.take_add_one,List.getElem?_eq_getElem hkl] at hf'
rcases List.mem_append.1 hf' with h1 | h1
·have h2:=(ae HI).1 f' h1
 omega
·(
simp at h1
rw[h1]
have:=ae HFF
rw[List.getElem?_eq_getElem hkl,Option.getD_some] at this
rw[← this]
omega)))
·(
obtain rfl:k=n:=by omega
have hall:fs.take k=fs:=by rw[ae HN,List.take_length]
obtain⟨hpos,⟨⟨t3,a3,b3,q3,c3,hf3⟩,z3⟩,hbw⟩:=ae HI
rw[hall] at hpos hf3
obtain⟨ws,wx,FW,CW⟩:=zar 1 (by omega) (by omega)
obtain⟨r,hr⟩:∃ r,r=zbc ((zdd fs).num*((((1:Int):Rat)).den:Int)) ((((1:Int):Rat)).num*((zdd fs).den:Int)):=⟨_,rfl⟩
have ls:=znj c fs lf fs.length (Nat.le_refl _)
rw[List.take_length] at ls
have hkc:fs.length*(c+1)≤1000*101:=Nat.mul_le_mul (by have:=ae HN;omega) (by omega)
have CM:=af (fun W (h:But [] wr W)=>zcw _ _ (zdd fs) ((1:Int):Rat) W (hf3.but h) (FW W) (ls.mono (by omega)) ((zct 1 (by decide)).mono (by omega)) r hr)
have hr0:(r != 0)=!decide (zdd fs=1):=qjd _ _ r hr
have HR0:=af hr0
have HPOS:=af hpos
have HBW:=af hbw
have C3:=af c3
have CWH:=af CW
clear hall hpos hf3 z3 hbw hr ls hkc hr0 FW CW HI
go_wp2
refine zss 11 _ _ wr t3 a3 b3 q3 ws wx r (by simp) g3 (by simp[Act.eval]) c3 (ae CWH) (fun w' hb=>ae CM w' hb) ?_
intro w1 hb1
have B1:=af ((ae HBW).trans' hb1)
simp only[bi,List.foldl_cons,List.foldl_nil,Act.put,List.setIfInBounds_toArray,List.set_cons_zero,List.set_cons_succ]
rw[ae HR0]
have nn:¬ (fs.length<1∨201<fs.length):=by have:=ae HN;omega
have nany:fs.any (fun f=>decide (f.num<0))=false:=by
 rw[List.any_eq_false]
 intro f hf
 simpa using ae HPOS f hf
by_cases hone:zdd fs=1
·(
have e1:ce=0:=by rw[ae HCE];unfold ol;rw[if_neg nn,nany];simp[hone]
subst e1
rw[decide_eq_true hone]
clear c3 hb1
go_wp2
go_ret
exact⟨rfl,ae B1⟩)
·(
have e1:ce=10:=by rw[ae HCE];unfold ol;rw[if_neg nn,nany];simp[hone]
subst e1
rw[decide_eq_false hone]
clear c3 hb1
go_wp2
go_ret
exact⟨rfl,ae B1⟩))))))
theorem zqy (f g:Nat→Rat):∀ n,sgR (fun k=>f k-g k) n=sgR f n-sgR g n
 | 0=>by
  show (0:Rat)=0-0
  grind
 | n+1=>by
  show sgR _ n+(f n-g n)=sgR f n+f n-(sgR g n+g n)
  rw[zqy f g n];grind
theorem ztp (f:Nat→Rat) (hf:∀ k,0≤f k) (m:Nat):∀ d,sgR f m≤sgR f (m+d)
 | 0=>Rat.le_refl
 | d+1=>by
  have:=ztp f hf m d
  have h:=hf (m+d)
  show sgR f m≤sgR f (m+d)+f (m+d)
  grind
theorem qfg (f g:Nat→Rat):∀ n,(∀ k,k<n→f k≤g k)→sgR f n≤sgR g n
 | 0,_=>Rat.le_refl
 | n+1,h=>by
  have h1:=qfg f g n (fun k hk=>h k (by omega))
  have h2:=h n (by omega)
  show sgR f n+f n≤sgR g n+g n
  grind
theorem zzp (f:Nat→Rat) (k:Nat):∀ n,sgR f (min n k)=sgR (fun x=>if x<k then f x else 0) n
 | 0=>by
  rw[Nat.zero_min];rfl
 | n+1=>by
  have ih:=zzp f k n
  show _=sgR (fun x=>if x<k then f x else 0) n+(if n<k then f n else 0)
  by_cases h:n<k
  ·rw[if_pos h,← ih,Nat.min_eq_left (show n≤k by omega),Nat.min_eq_left (show n+1≤k by omega)]
   rfl
  ·rw[if_neg h,← ih,Nat.min_eq_right (show k≤n by omega),Nat.min_eq_right (show k≤n+1 by omega)]
   grind
def phi (p:Nat→Rat) (n c:Nat):Nat→Nat→Rat
 | 0,_=>1
 | t+1,s=>sgR (fun x=>p x*phi p n c t (s+c-x)) (min n (s+c+1))
theorem zur (p:Nat→Rat) (n c t s:Nat):phi p n c (t+1) s=sgR (fun x=>if x<s+c+1 then p x*phi p n c t (s+c-x) else 0) n:=zzp _ _ n
theorem zna (p:Nat→Rat) (n c:Nat) (h1:sgR p n=1):∀ (t s:Nat),(t:Int)*((n:Int)-1-(c:Int))≤(s:Int)→phi p n c t s=1
 | 0,_,_=>rfl
 | t+1,s,h=>by
  have e:((t+1:Nat):Int)*((n:Int)-1-(c:Int))=(t:Int)*((n:Int)-1-(c:Int))+((n:Int)-1-(c:Int)):=by
   rw[Int.natCast_add,Int.add_mul];omega
  rw[e] at h
  rw[zur,← h1]
  by_cases hz:(n:Int)-1≤(c:Int)
  ·refine mi _ _ n (fun k hk=>?_)
   have hk2:k<s+c+1:=by omega
   rw[if_pos hk2,zna p n c h1 t (s+c-k) ?_]
   ·grind
   ·have:(t:Int)*((n:Int)-1-(c:Int))≤0:=by
     have h2:=Int.mul_nonneg (show (0:Int)≤(t:Int) by omega) (show (0:Int)≤(c:Int)-((n:Int)-1) by omega)
     have h3:(t:Int)*((c:Int)-((n:Int)-1))=- ((t:Int)*((n:Int)-1-(c:Int))):=by grind
     omega
    omega
  ·refine mi _ _ n (fun k hk=>?_)
   have h2:=Int.mul_nonneg (show (0:Int)≤(t:Int) by omega) (show (0:Int)≤(n:Int)-1-(c:Int) by omega)
   have hk2:k<s+c+1:=by omega
   rw[if_pos hk2,zna p n c h1 t (s+c-k) (by omega)]
   grind
def zw (r:Rat):Nat→Rat
 | 0=>1
 | k+1=>zw r k*r
theorem zfc (r:Rat) (h:0<r):∀ k,0<zw r k
 | 0=>by
  show (0:Rat)<1
  decide
 | k+1=>Rat.mul_pos (zfc r h k) h
theorem zup (r:Rat) (a:Nat):∀ b,zw r (a+b)=zw r a*zw r b
 | 0=>by
  show zw r a=zw r a*1
  grind
 | b+1=>by
  have:=zup r a b
  show zw r (a+b)*r=zw r a*(zw r b*r)
  grind
def zsi (f:Nat→Rat) (o u:Rat) (q:Rat × Rat) (k:Nat):Rat × Rat:=(q.1*o+f k*q.2,q.2*u)
def l5 (f:Nat→Rat) (o u:Rat) (l:List Nat):Rat × Rat:=l.foldl (zsi f o u) (0,1)
theorem zpz (f:Nat→Rat) (o u:Rat) (n:Nat):∀ d,d≤n→(l5 f o u (dnL n d)).2=zw u d∧(l5 f o u (dnL n d)).1*zw o (n-d)=sgR (fun j=>if n-d≤j then f j*zw o j*zw u (n-1-j) else 0) n
 | 0,_=>by
  refine⟨rfl,?_⟩
  show 0*zw o (n-0)=_
  rw[mi _ (fun _=>0) n (fun k hk=>by rw[if_neg (by omega)]),ztn];grind
 | d+1,h=>by
  obtain⟨h1,h2⟩:=zpz f o u n d (by omega)
  have es:l5 f o u (dnL n (d+1))=zsi f o u (l5 f o u (dnL n d)) (n-(d+1)):=by
   unfold l5
   rw[show dnL n (d+1)=dnL n d++[n-(d+1)] from rfl,List.foldl_append];rfl
  rw[es]
  unfold zsi
  refine⟨by rw[h1];rfl,?_⟩
  show ((l5 f o u (dnL n d)).1*o+f (n-(d+1))*(l5 f o u (dnL n d)).2)*zw o (n-(d+1))=_
  rw[h1]
  have e1:zw o (n-d)=zw o (n-(d+1))*o:=by
   rw[show n-d=(n-(d+1))+1 from by omega];rfl
  rw[e1] at h2
  have e2:sgR (fun j=>if n-(d+1)≤j then f j*zw o j*zw u (n-1-j) else 0) n=sgR (fun j=>(if n-d≤j then f j*zw o j*zw u (n-1-j) else 0)+(if j=n-(d+1) then f j*zw o j*zw u (n-1-j) else 0)) n:=mi _ _ n (fun j hj=>by
   by_cases ha:n-d≤j
   ·rw[if_pos (by omega),if_pos ha,if_neg (by omega)];grind
   ·by_cases hb:j=n-(d+1)
    ·rw[if_pos (by omega),if_neg ha,if_pos hb];grind
    ·rw[if_neg (by omega),if_neg ha,if_neg hb];grind)
  rw[e2,zzq,← h2,zqz (n-(d+1)) (fun j=>f j*zw o j*zw u (n-1-j)),if_pos (by omega),show n-1-(n-(d+1))=d from by omega]
  grind
theorem zpq (o u r:Rat) (h:o=r*u):∀ k,zw o k=zw r k*zw u k
 | 0=>by
  show (1:Rat)=1*1
  grind
 | k+1=>by
  have:=zpq o u r h k
  show zw o k*o=zw r k*r*(zw u k*u)
  rw[this,h];grind
theorem qim (f:Nat→Rat) (o u r:Rat) (n:Nat) (hn:0<n) (h:o=r*u):(l5 f o u (dnL n n)).1=zw u (n-1)*sgR (fun j=>f j*zw r j) n:=by(
have h2:=(zpz f o u n n (Nat.le_refl _)).2
rw[Nat.sub_self] at h2
have e:(l5 f o u (dnL n n)).1=(l5 f o u (dnL n n)).1*zw o 0:=by
 show _=_*1
 grind
rw[e,h2,← zfw]
refine mi _ _ n (fun j hj=>?_)
rw[if_pos (Nat.zero_le _),zpq o u r h j]
have e3:=zup u j (n-1-j)
rw[show j+(n-1-j)=n-1 from by omega] at e3
rw[e3];grind)
theorem zwr (inc:Nat) (v:Value) (fs:List Rat) (w:World) (m:Int) (c:Nat) (hv:aq w v fs) (hl:fs.length≤1000) (lf:∀ f ∈ fs,Len f c) (hc:c≤100) (htab:Lib.TabIs prog w "internal/strconv.uint64pow10" .u64 Lib.pow10Tab) (hm:w.cell? ⟨4,0,none⟩=some (.int .i64 m)) :
  Calls prog 75 #[.int .i64 (inc:Int),v] w fun e w'=>∃ g s x y p,e=.returned (.agg #[.int .i64 (inc:Int),.bool s,.int .u64 x,.int .u64 y,.pointer p,.slice (some ⟨g,0,none⟩) fs.length fs.length])∧am w' (.agg #[.bool s,.int .u64 x,.int .u64 y,.pointer p]) (((jf 1 fs:Nat):Int):Rat)∧oh w' g fs.length (fun i=>fs[i]?.getD 0*(((jf 1 fs:Nat):Int):Rat))∧w.heap.size≤g∧g<w'.heap.size∧But [] w w':=by(
have hfc:fs.length*c≤1000*100:=Nat.mul_le_mul hl hc
obtain⟨U,hUU⟩:∃ U,U=jf 1 fs:=⟨_,rfl⟩
have lU:Len (((U:Nat):Int):Rat) 200000:=by
 rw[hUU]
 refine jq _ _ (Nat.le_refl _) (Nat.le_trans (zdt c fs 1 lf) ?_) (by omega)
 have h1:(wd 18446744073709551616 1).length≤1:=aj (by omega) _ 1 (by omega)
 omega
have CO:=af (fun W v' (h:But [] w W) (hv':zbr W v' [fs])=>zhe v' [fs] W m c hv' (by simp) (fun l hl'=>by simp at hl';rw[hl'];omega) (fun l hl'=>by simp at hl';rw[hl'];exact lf) (by simp;omega) (by omega) (TabIs.but htab h) (h.ag hm (by simp)))
have TI:=af (fun W vu (h:But [] w W) (hu:am W vu (((U:Nat):Int):Rat))=>zpj v vu fs _ W (hv.but h) hu (by omega) (fun f hf=>(lf f hf).mono (by omega)) (lU.mono (by omega)))
simp only[List.flatten_cons,List.flatten_nil,List.append_nil,← hUU] at CO
rw[← hUU]
have HV:=af hv
obtain⟨q,cap,rfl,hcap,-⟩:=id hv
obtain⟨n,hN⟩:∃ n,n=fs.length:=⟨_,rfl⟩
rw[← hN] at TI HV ⊢
have HN:=af hN
clear hv lU hUU htab hm hN hcap hfc
obtain⟨A,hA⟩:∃ A,A=w.alloc (.cells #[.int .i64 0,.bool false,.int .u64 0,.int .u64 0,.pointer none,.slice none 0 0] 122):=⟨_,rfl⟩
have xA:zbd A w.heap.size 0 false 0 0 none (.slice none 0 0):=by rw[hA];exact zbd.new _ _ _ _ _ _ _ _
have bA:But [] w A:=by rw[hA];exact (But.refl _ _).alloc _
have sA:A.heap.size=w.heap.size+1:=by rw[hA];simp
have XA:=af xA
have BA:=af bA
clear xA bA
go_enter func75,ntmps75
go_wp2_with fail
rw[← hA]
have bL:But [] A (A.alloc (.cells #[.slice q n cap] 46)):=(But.refl _ _).alloc _
have hL:zbr (A.alloc (.cells #[.slice q n cap] 46)) (.slice (some ⟨w.heap.size+1,0,none⟩) 1 1) [fs]:=by
 refine⟨some ⟨w.heap.size+1,0,none⟩,1,rfl,Nat.le_refl _,fun i l hil=>?_⟩
 obtain rfl:i=0:=by
  have:=(List.getElem?_eq_some_iff.1 hil).1
  simpa using this
 obtain rfl:fs=l:=by simpa using hil
 exact⟨_,_,.slice q n cap,rfl,by rw[← sA];simp,((ae HV).but (ae BA)).but bL⟩
have BL:=af ((ae BA).trans' bL)
have XL:=af ((ae XA).but bL (by simp))
refine (ae CO _ _ (ae BL) hL).mono ?_
rintro e w1 ⟨v1,rfl,hf1,hb1⟩
have B1:=af ((ae BL).trans' hb1)
have X1:=af ((ae XL).but hb1 (by simp))
obtain⟨x1,y1,p1,rfl,-⟩:=id hf1.agg
generalize hs1:decide ((((U:Nat):Int):Rat).num<0)=s1 at *
have HF1:=af hf1
have b3:w.heap.size<w1.heap.size:=(ae X1).lt
clear hb1 hf1 hs1 hL bL BL XL BA XA CO hA sA
go_wp2
have bA:But [] w1 (w1.alloc (.cells #[.bool s1,.int .u64 x1,.int .u64 y1,.pointer p1] 27)):=(But.refl _ _).alloc _
have c3:P4 (w1.alloc (.cells #[.bool s1,.int .u64 x1,.int .u64 y1,.pointer p1] 27)) w1.heap.size s1 x1 y1 p1:=⟨by simp,by simp,by simp,by simp⟩
have C3:=af c3
have B2:=af ((ae B1).trans' bA)
have X2:=af ((ae X1).but bA (by simp))
have F2:=af ((ae HF1).but bA)
clear bA c3 B1 X1 HF1
generalize w1.heap.size=g3 at *
generalize hgb:w.heap.size=gb at *
generalize w1.alloc (.cells #[.bool s1,.int .u64 x1,.int .u64 y1,.pointer p1] 27)=V at *
refine ztc 2 _ _ V V.heap.size (inc:Int) n (fun i=>fs[i]?.getD 0*(((U:Nat):Int):Rat)) s1 x1 y1 p1 (.slice q n cap) gb g3 (by simp) (by simp[Act.eval]) (by simp[Act.eval]) (by simp[Act.eval]) (by simp[Act.eval]) (ae X2) (ae C3) (fun w' hb=>(ae TI w' _ ((ae B2).trans' hb) ((ae F2).but hb)).mono (fun e w'' h=>by
 obtain⟨g,e1,h1,h2,h3,h4⟩:=h
 exact⟨_,e1,⟨g,rfl,h1,Nat.le_trans hb.size h2,h3⟩,h4⟩)) ?_
intro w3 v4 g hb3 hr hg1 hg2
simp only[bi,List.foldl_cons,List.foldl_nil,Act.put,List.setIfInBounds_toArray,List.set_cons_zero,List.set_cons_succ]
have X3:=(ae X2).but hb3 (by simp)
have hS:=br w3 gb [.int .i64 (inc:Int),.bool s1,.int .u64 x1,.int .u64 y1,.pointer p1,.slice (some ⟨g,0,none⟩) n n] 0
obtain⟨m0,m1,m2,m3,m4,m5,-⟩:=X3.put (inc:Int) s1 x1 y1 p1 (.slice (some ⟨g,0,none⟩) n n)
have hF:But [] w (w3.setCells gb 0 [.int .i64 (inc:Int),.bool s1,.int .u64 x1,.int .u64 y1,.pointer p1,.slice (some ⟨g,0,none⟩) n n]):=((ae B2).trans' hb3).trans hS (fun x hx=>by simp at hx;subst hx;exact .inr (by omega))
have hff:=((ae F2).but hb3).qly X3.c1 hS
have lgb:gb<V.heap.size:=(ae X2).lt
have hR:oh (w3.setCells gb 0 [.int .i64 (inc:Int),.bool s1,.int .u64 x1,.int .u64 y1,.pointer p1,.slice (some ⟨g,0,none⟩) n n]) g n (fun i=>fs[i]?.getD 0*(((U:Nat):Int):Rat)):=by
 refine⟨fun j hj=>?_,fun o=>by rw[World.frozen?_setCells];exact hr.loose o⟩
 obtain⟨s5,x5,y5,p5,e5,f5⟩:=hr.told j hj
 exact⟨s5,x5,y5,p5,e5.but hS (by simp;omega),f5.qly X3.c1 hS⟩
have hG:g<(w3.setCells gb 0 [.int .i64 (inc:Int),.bool s1,.int .u64 x1,.int .u64 y1,.pointer p1,.slice (some ⟨g,0,none⟩) n n]).heap.size:=Nat.lt_of_lt_of_le hg2 hS.size
generalize w3.setCells gb 0 [.int .i64 (inc:Int),.bool s1,.int .u64 x1,.int .u64 y1,.pointer p1,.slice (some ⟨g,0,none⟩) n n]=F at *
have hVw:w.heap.size≤V.heap.size:=(ae B2).size
clear hS hb3 hr X3
go_wp2
exact bodyPost_ret (v:=.agg #[.int .i64 (inc:Int),.bool s1,.int .u64 x1,.int .u64 y1,.pointer p1,.slice (some ⟨g,0,none⟩) n n]) (by simp[results,results75,go_sem,m0,m1,m2,m3,m4,m5]) rfl ⟨g,s1,x1,y1,p1,rfl,hff,hR,by omega,hG,hF⟩)
theorem zpl (f:Rat):∀ n,zcb f n=zw f n
 | 0=>rfl
 | n+1=>by
  show zcb f n*f=zw f n*f
  rw[zpl f n]
theorem o7 (X k m:Nat) (hX:(wd 18446744073709551616 X).length≤m):(wd 18446744073709551616 (X^k)).length≤m*k+1:=by(
have h1:=ak (B:=18446744073709551616) (by omega) X m hX
rcases Nat.eq_zero_or_pos k with rfl | hk0
·rw[Nat.pow_zero]
 exact Nat.le_trans (aj (B:=18446744073709551616) (by omega) 1 1 (by omega)) (by omega)
·refine Nat.le_trans (aj (B:=18446744073709551616) (by omega) _ (m*k) ?_) (by omega)
 rw[Nat.pow_mul]
 exact Nat.pow_lt_pow_left h1 (by omega))
theorem zpi (yi:Int) (s1:Bool) (x1 y1:Int) (p1 yq:Option Addr) (yn yc U t:Nat) (w:World) (hU:am w (.agg #[.bool s1,.int .u64 x1,.int .u64 y1,.pointer p1]) (((U:Nat):Int):Rat)) (ht:t≤20) (hl:(wd 18446744073709551616 U).length≤20) :
  Calls prog 78 #[.agg #[.int .i64 yi,.bool s1,.int .u64 x1,.int .u64 y1,.pointer p1,.slice yq yn yc],.int .i64 (t:Int)] w fun e w'=>∃ v,e=.returned v∧am w' v (zw (((U:Nat):Int):Rat) t)∧But [] w w':=by(
obtain⟨e1,e2⟩:=bj (U:Int)
have hm:20*t≤20*20:=Nat.mul_le_mul_left _ ht
have PO:=af (fun W (h:But [] w W)=>zky _ _ t W (hU.but h) (by omega) (jq U U (Nat.le_refl _) (Nat.le_trans hl (by omega)) (by omega)) (by
 rw[e1,Int.natAbs_natCast]
 have:=o7 U t 20 hl
 omega) (by
 rw[e2,Nat.one_pow]
 exact Nat.le_trans (aj (by omega) 1 1 (by omega)) (by omega)))
rw[zpl] at PO
generalize zw (((U:Nat):Int):Rat) t=G at *
obtain⟨A,hA⟩:∃ A,A=w.alloc (.cells #[.int .i64 yi,.bool s1,.int .u64 x1,.int .u64 y1,.pointer p1,.slice yq yn yc] 122):=⟨_,rfl⟩
obtain⟨W,hW⟩:∃ W,W=A.alloc (.cells #[.bool false,.int .u64 0,.int .u64 0,.pointer none] 27):=⟨_,rfl⟩
have sA:A.heap.size=w.heap.size+1:=by rw[hA];simp
have bA:But [] w A:=by rw[hA];exact (But.refl _ _).alloc _
have bW:But [] A W:=by rw[hW];exact (But.refl _ _).alloc _
have xR:az W (w.heap.size+1) 0:=by
 rw[hW,← sA]
 exact az.new A false 0 0 none 0 27 (dz _)
have BW:=af (bA.trans' bW)
have XR:=af xR
clear hU e1 e2 hm hl bA bW xR
go_enter func78,ntmps78
go_wp2_with fail
rw[← hA,← hW]
refine (ae PO _ (ae BW)).mono ?_
rintro e w1 ⟨v1,rfl,hf1,hb1⟩
have B1:=af ((ae BW).trans' hb1)
have X1:=af ((ae XR).but hb1)
obtain⟨x2,y2,p2,rfl,-⟩:=id hf1.agg
generalize decide (G.num<0)=s2 at *
have HF1:=af hf1
clear hb1 hf1 hA hW sA BW XR PO
generalize hg4:w.heap.size+1=g4 at *
have g4l:g4<w1.heap.size:=(ae X1).lt
obtain⟨⟨t3,a3,b3,q3,⟨c0,c1,c2,c3⟩,-⟩,z3⟩:=ae X1
have P2:Hid (P4 w1 g4 t3 a3 b3 q3):=⟨c0,c1,c2,c3⟩
go_wp2
have hP:=aw w1 g4 s2 x2 y2 p2
have hp4:=mo w1 g4 s2 x2 y2 p2 (ae P2)
have hF1:But [] w (jc w1 g4 s2 x2 y2 p2):=(ae B1).trans hP (fun x hx=>by simp at hx;subst hx;exact .inr (by omega))
have hf1:=(ae HF1).over (ae P2).1 hP
have bV:But [] (jc w1 g4 s2 x2 y2 p2) ((jc w1 g4 s2 x2 y2 p2).alloc (.cells #[.bool s2,.int .u64 x2,.int .u64 y2,.pointer p2] 27)):=(But.refl _ _).alloc _
change bodyPost _ _ _ _ _ ((jc w1 g4 s2 x2 y2 p2).alloc (.cells #[.bool s2,.int .u64 x2,.int .u64 y2,.pointer p2] 27))
have hF:=hF1.trans' bV
have hff:=hf1.but bV
obtain⟨m0,m1,m2,m3⟩:=hp4.but bV (by simp)
generalize (jc w1 g4 s2 x2 y2 p2).alloc (.cells #[.bool s2,.int .u64 x2,.int .u64 y2,.pointer p2] 27)=F at *
exact bodyPost_ret (v:=.agg #[.bool s2,.int .u64 x2,.int .u64 y2,.pointer p2]) (by simp[results,results78,go_sem,m0,m1,m2,m3]) rfl ⟨_,rfl,hff,hF⟩)
def ahR (cs bs:List Rat) (m:Nat):Nat→Rat:=sgR (fun x=>cs[x]?.getD 0*bs[m-x]?.getD 0)
theorem qep (inc th n cb co cc bb bo bn bc m mn:Nat) (s1:Bool) (x1 y1:Int) (p1:Option Addr) (cs bs:List Rat) (w:World) (hc:aq w (.slice (some ⟨cb,co,none⟩) n cc) cs) (hb:aq w (.slice (some ⟨bb,bo,none⟩) bn bc) bs)
  (hmI:m=th+inc) (hmn:mn=min n (m+1)) (hmb:m<bn) (hbn:bn≤300) (hn1:n≤300) (hcc:n≤cc) (hcc2:cc<1000000)
  (lc:∀ k,k<n→Len (cs[k]?.getD 0) 1000) (lb:∀ k,k≤m→Len (bs[k]?.getD 0) 1000) (ls:∀ k,k≤mn→Len (ahR cs bs m k) 1000) :
  Calls prog 160 #[.agg #[.int .i64 (inc:Int),.bool s1,.int .u64 x1,.int .u64 y1,.pointer p1,.slice (some ⟨cb,co,none⟩) n cc],.slice (some ⟨bb,bo,none⟩) bn bc,.int .i64 (th:Int)] w fun e w'=>∃ v,e=.returned v∧am w' v (ahR cs bs m mn)∧But [] w w':=by(
have HC:=af hc
have HB:=af hb
have LC:=af lc
have LB:=af lb
have LS:=af ls
have hm1:(th:Int)+(inc:Int)=(m:Int):=by omega
have hmin:min (n:Int) ((m:Int)+1)=(mn:Int):=by omega
have hmn1:mn≤n:=by omega
have hmn2:mn≤m+1:=by omega
have hmn3:mn≤cc:=by omega
obtain⟨A,hA⟩:∃ A,A=w.alloc (.cells #[.int .i64 (inc:Int),.bool s1,.int .u64 x1,.int .u64 y1,.pointer p1,.slice (some ⟨cb,co,none⟩) n cc] 122):=⟨_,rfl⟩
obtain⟨W1,hW1⟩:∃ W1,W1=A.alloc (.cells #[.bool false,.int .u64 0,.int .u64 0,.pointer none] 27):=⟨_,rfl⟩
obtain⟨W,hW⟩:∃ W,W=W1.alloc (.cells #[.bool false,.int .u64 0,.int .u64 0,.pointer none] 27):=⟨_,rfl⟩
have sA:A.heap.size=w.heap.size+1:=by rw[hA];simp
have sW1:W1.heap.size=w.heap.size+1+1:=by rw[hW1,← sA];simp
have bA:But [] w A:=by rw[hA];exact (But.refl _ _).alloc _
have bW1:But [] A W1:=by rw[hW1];exact (But.refl _ _).alloc _
have bW:But [] W1 W:=by rw[hW];exact (But.refl _ _).alloc _
have x6:az W (w.heap.size+1) 0:=by
 have h:az W1 (w.heap.size+1) 0:=by
  rw[hW1,← sA]
  exact az.new A false 0 0 none 0 27 (dz _)
 exact h.but bW
have x8:az W (w.heap.size+1+1) 0:=by
 rw[hW,← sW1]
 exact az.new W1 false 0 0 none 0 27 (dz _)
have BW:=af ((bA.trans' bW1).trans' bW)
have X6:=af x6
have X8:=af x8
clear hc hb lc lb ls hmI hmn x6 x8 bA bW1 bW
go_enter func160,ntmps160
go_wp2
rw[← hA,← hW1,← hW]
clear hA hW1 hW sA sW1 hm1 hmin
generalize hg8:w.heap.size+1+1=g8 at *
generalize hg6:w.heap.size+1=g6 at *
go_loopw [25] (fun iv wr=>∃ k:Nat,k≤mn∧iv=.int .i64 (k:Int)∧Hid (az wr g8 (ahR cs bs m k)∧az wr g6 0∧But [] w wr)) (fun iv _=>mn-(intOf iv).toNat)
case atStart=>exact⟨0,Nat.zero_le _,rfl,ae X8,ae X6,ae BW⟩
case round =>(
obtain⟨k,hk,rfl,HI⟩:=hrel
rename World=>wr
clear X6 X8 BW
by_cases hlt:k<mn
·(
obtain⟨sr,xr,yr,pr,⟨r0,r1,r2,r3⟩,hfr⟩:=((ae HC).but (ae HI).2.2).get k (by omega)
have HFR:=af hfr
clear hfr
go_wp2
have bA:But [] wr (wr.alloc (.cells #[.bool sr,.int .u64 xr,.int .u64 yr,.pointer pr] 27)):=(But.refl _ _).alloc _
have x7:=az.new wr sr xr yr pr _ 27 (ae HFR)
have D8:=af ((ae HI).1.but bA)
have D6:=af ((ae HI).2.1.but bA)
have DB:=af ((ae HI).2.2.trans' bA)
have X7:=af x7
clear bA x7 HFR r0 r1 r2 r3 HI
generalize wr.heap.size=g10 at *
generalize wr.alloc (.cells #[.bool sr,.int .u64 xr,.int .u64 yr,.pointer pr] 27)=U at *
obtain⟨⟨t5,a5,b5,q5,c5,hf5⟩,z5⟩:=ae D8
obtain⟨⟨t7,a7,b7,q7,c7,hf7⟩,-⟩:=ae X7
obtain⟨t9,a9,b9,q9,c9,hf9⟩:=((ae HB).but (ae DB)).get (m-k) (by omega)
have l7:=ae LC k (by omega)
have l9:=ae LB (m-k) (by omega)
have lm:=ae LS k (by omega)
refine zsu 6 _ _ U t5 a5 b5 q5 t7 a7 b7 q7 t9 a9 b9 q9 bb bo bn bc m k _ _ _ g8 g10 (by simp) (by simp[Act.eval]) c5 z5 (by simp[Act.eval]) (by simp[Act.eval]) (by simp[Act.eval]) (by simp[Act.eval]) (by omega) (by omega) (by omega) (by omega) c5 c7 c9 (fun w' hb=>j4 _ _ _ _ w' (hf7.but hb) (hf9.but hb) (l7.mono (by omega)) (l9.mono (by omega))) (fun w' hb v' hv'=>zvz _ _ _ _ w' (hf5.but hb) hv' (lm.mono (by omega)) (zan l7 l9 499999 (by omega))) ?_
intro w7 v8 s7 x7 y7 p7 hb7 hfz
simp only[bi,List.foldl_cons,List.foldl_nil,Act.put,List.setIfInBounds_toArray,List.set_cons_zero,List.set_cons_succ]
have ez:ahR cs bs m k+cs[k]?.getD 0*bs[m-k]?.getD 0=ahR cs bs m (k+1):=rfl
rw[ez] at hfz
have hP:=aw w7 g8 s7 x7 y7 p7
have J8:=af (((ae D8).but hb7).put hfz)
have J6:=af (((ae D6).but hb7).beside hP (by simp;omega) (fun g hg=>by simp at hg;subst hg;exact ((ae D8).but hb7).bool))
have JB:=af (((ae DB).trans' hb7).trans hP (fun x hx=>by simp at hx;subst hx;exact .inr (by omega)))
generalize jc w7 g8 s7 x7 y7 p7=V7 at *
clear hP hfz hb7 D8 D6 DB X7 c5 c7 c9 hf5 hf7 hf9 z5 ez lm l7 l9
go_wp2
exact⟨⟨k+1,by omega,by go_num,ae J8,ae J6,ae JB⟩,by simp[intOf];omega⟩)
·(
obtain rfl:k=mn:=by omega
obtain⟨⟨⟨t6,a6,b6,q6',⟨d0,d1,d2,d3⟩,hf6⟩,z6⟩,⟨⟨t2,a2,b2,q2,⟨c0,c1,c2,c3⟩,-⟩,z2⟩,hbw⟩:=ae HI
have HF6:=af hf6
have HBW:=af hbw
have P2:Hid (P4 wr g6 t2 a2 b2 q2):=⟨c0,c1,c2,c3⟩
clear HI hf6 hbw
go_wp2
have hP:=aw wr g6 t6 a6 b6 q6'
obtain⟨m0,m1,m2,m3⟩:=mo wr g6 t6 a6 b6 q6' (ae P2)
have hF:But [] w (jc wr g6 t6 a6 b6 q6'):=(ae HBW).trans hP (fun x hx=>by simp at hx;subst hx;exact .inr (by omega))
have hff:=(ae HF6).over (ae P2).1 hP
change bodyPost _ _ _ _ _ (jc wr g6 t6 a6 b6 q6')
generalize jc wr g6 t6 a6 b6 q6'=F at *
exact bodyPost_ret (v:=.agg #[.bool t6,.int .u64 a6,.int .u64 b6,.pointer q6']) (by simp[results,results160,go_sem,m0,m1,m2,m3]) rfl ⟨_,rfl,hff,hF⟩)))
def exF (fs:List Rat) (inc U:Nat) (i:Nat):Rat:=(if i<fs.length then fs[i]?.getD 0*(((U:Nat):Int):Rat) else 0)-(if i=inc then (((U:Nat):Int):Rat) else 0)
theorem zyn (v:Value) (fs:List Rat) (inc:Nat) (w:World) (m:Int) (c:Nat) (hv:aq w v fs) (hl:fs.length≤1000) (hi:inc≤20) (lf:∀ f ∈ fs,Len f c) (hc:c≤100) (htab:Lib.TabIs prog w "internal/strconv.uint64pow10" .u64 Lib.pow10Tab) (hm:w.cell? ⟨4,0,none⟩=some (.int .i64 m)) :
  Calls prog 88 #[.int .i64 (inc:Int),v] w fun e w'=>∃ g,e=.returned (.slice (some ⟨g,0,none⟩) (max fs.length (inc+1)) (max fs.length (inc+1)))∧oh w' g (max fs.length (inc+1)) (exF fs inc (jf 1 fs))∧w.heap.size≤g∧g<w'.heap.size∧But [] w w':=by(
have hfc:fs.length*c≤1000*100:=Nat.mul_le_mul hl hc
obtain⟨U,hUU⟩:∃ U,U=jf 1 fs:=⟨_,rfl⟩
have lU:Len (((U:Nat):Int):Rat) 200000:=by
 rw[hUU]
 refine jq _ _ (Nat.le_refl _) (Nat.le_trans (zdt c fs 1 lf) ?_) (by omega)
 have h1:(wd 18446744073709551616 1).length≤1:=aj (by omega) _ 1 (by omega)
 omega
have CO:=af (fun W v' (h:But [] w W) (hv':zbr W v' [fs])=>zhe v' [fs] W m c hv' (by simp) (fun l hl'=>by simp at hl';rw[hl'];omega) (fun l hl'=>by simp at hl';rw[hl'];exact lf) (by simp;omega) (by omega) (TabIs.but htab h) (h.ag hm (by simp)))
have TI:=af (fun W vu (h:But [] w W) (hu:am W vu (((U:Nat):Int):Rat))=>zpj v vu fs _ W (hv.but h) hu (by omega) (fun f hf=>(lf f hf).mono (by omega)) (lU.mono (by omega)))
have LF:Hid (∀ i,i<fs.length→Len (fs[i]?.getD 0) c):=fun i h=>by rw[List.getElem?_eq_getElem h];exact lf _ (List.getElem_mem h)
simp only[List.flatten_cons,List.flatten_nil,List.append_nil,← hUU] at CO
rw[← hUU]
have HV:=af hv
have HLU:=af lU
obtain⟨q,cap,rfl,hcap,-⟩:=id hv
obtain⟨n,hN⟩:∃ n,n=fs.length:=⟨_,rfl⟩
rw[← hN] at TI HV LF hl ⊢
have HN:=af hN
obtain⟨z,hz⟩:∃ z,z=max n (inc+1):=⟨_,rfl⟩
rw[← hz]
have hz1:n≤z:=by omega
have hz2:inc<z:=by omega
have hz3:z≤1021:=by omega
have hmax:(max (n:Int) ((inc:Int)+1))=(z:Int):=by omega
have hmk:=fun wx=>zje wx z (by omega)
clear hv lU hUU htab hm hN hcap hfc lf hz
go_enter func88,ntmps88
go_wp2_with fail
have bL:But [] w (w.alloc (.cells #[.slice q n cap] 46)):=(But.refl _ _).alloc _
have hL:zbr (w.alloc (.cells #[.slice q n cap] 46)) (.slice (some ⟨w.heap.size,0,none⟩) 1 1) [fs]:=by
 refine⟨some ⟨w.heap.size,0,none⟩,1,rfl,Nat.le_refl _,fun i l hil=>?_⟩
 obtain rfl:i=0:=by
  have:=(List.getElem?_eq_some_iff.1 hil).1
  simpa using this
 obtain rfl:fs=l:=by simpa using hil
 exact⟨_,_,.slice q n cap,rfl,by simp,(ae HV).but bL⟩
refine (ae CO _ _ bL hL).mono ?_
rintro e w1 ⟨v1,rfl,hf1,hb1⟩
have B1:=af (bL.trans' hb1)
obtain⟨x1,y1,p1,rfl,-⟩:=id hf1.agg
generalize hs1:decide ((((U:Nat):Int):Rat).num<0)=s1 at *
have HF1:=af hf1
clear hb1 hf1 hs1 hL bL CO
go_wp2_with fail
obtain⟨A,hA⟩:∃ A,A=w1.alloc (.cells #[.bool s1,.int .u64 x1,.int .u64 y1,.pointer p1] 27):=⟨_,rfl⟩
obtain⟨V,hV⟩:∃ V,V=A.alloc (.cells (madeCells #[.bool false,.int .u64 0,.int .u64 0,.pointer none] (z*4)) 27):=⟨_,rfl⟩
have sA:A.heap.size=w1.heap.size+1:=by rw[hA];simp
have bA:But [] w1 A:=by rw[hA];exact (But.refl _ _).alloc _
have bV:But [] A V:=by rw[hV];exact (But.refl _ _).alloc _
have xU:az V w1.heap.size (((U:Nat):Int):Rat):=by
 have h1:=(az.new w1 s1 x1 y1 p1 _ 27 (ae HF1))
 rw[← hA] at h1
 exact h1.but bV
have rD:oh V (w1.heap.size+1) z (fun _=>0):=by
 rw[← sA,hV]
 exact oh.made A z
have sV:w1.heap.size+1<V.heap.size:=by rw[hV,← sA];simp
rw[← hA,← hV]
have hww:w.heap.size≤w1.heap.size:=(ae B1).size
have B2:=af ((ae B1).trans' (bA.trans' bV))
have F2:=af (((ae HF1).but bA).but bV)
have XU:=af xU
have RD:=af rD
clear hA hV sA bA bV xU rD B1 HF1
generalize hg5:w1.heap.size=g5 at *
clear hg5
refine (ae TI _ _ (ae B2) (ae F2)).mono ?_
rintro e w3 ⟨g,rfl,hr,hg1,hg2,hb3⟩
have hne:g≠g5+1:=by omega
obtain⟨w4,hcp,hrow,hb4⟩:=qjb w3 g (g5+1) n z (fun i=>fs[i]?.getD 0*(((U:Nat):Int):Rat)) hr ((ae RD).but hb3 sV) hz1 (by omega) hne 3
have cb:=((ae RD).but hb3 sV).bool (show 0<z by omega)
have XU4:=af (((ae XU).but hb3).beside hb4 (by simp) (fun t ht=>by simp at ht;subst ht;exact cb))
have B4:=af (((ae B2).trans' hb3).trans hb4 (fun t ht=>by simp at ht;subst ht;exact .inr (by omega)))
have s4:Hid (g5+1<w4.heap.size):=Nat.lt_of_lt_of_le (Nat.lt_of_lt_of_le sV hb3.size) hb4.size
have HR:=af hrow
clear hr hg1 hg2 hb3 hb4 hrow cb RD XU B2 F2 TI sV
go_wp2_with fail
clear hcp hmk hmax
obtain⟨t1,a1,b1,q1,c1,f1⟩:=(ae HR).told inc hz2
obtain⟨⟨t2,a2,b2,q2,c2,f2⟩,-⟩:=id (ae XU4)
have lr:Len (if inc<n then fs[inc]?.getD 0*(((U:Nat):Int):Rat) else 0) 200200:=by
 by_cases h:inc<n
 ·rw[if_pos h];exact zan (ae LF inc h) (ae HLU) _ (by omega)
 ·rw[if_neg h];exact zim _ (by omega)
refine znu 4 _ _ w4 (g5+1) (inc*4) 0 z z inc t1 a1 b1 q1 t2 a2 b2 q2 _ _ g5 (by simp) c1 (fun j=>(ae HR).loose j) (by simp[Act.eval]) (by simp[Act.eval]) (by simp[Act.eval]) (by omega) hz2 (by omega) c1 c2 (fun w' hb=>zkx _ _ _ _ w' (f1.but hb) (f2.but hb) (lr.mono (by omega)) ((ae HLU).mono (by omega))) ?_
intro w5 s' x' y' p' hb5 hf5
simp only[bi,List.foldl_cons,List.foldl_nil,Act.put,List.setIfInBounds_toArray,List.set_cons_zero,List.set_cons_succ]
have r5:=((ae HR).but hb5 (ae s4)).set hz2 s' x' y' p' _ hf5
have b5:=br w5 (g5+1) [.bool s',.int .u64 x',.int .u64 y',.pointer p'] (inc*4)
have B5:=af (((ae B4).trans' hb5).trans b5 (fun t ht=>by simp at ht;subst ht;exact .inr (by omega)))
have s5:Hid (g5+1<(w5.setCells (g5+1) (inc*4) [.bool s',.int .u64 x',.int .u64 y',.pointer p']).heap.size):=Nat.lt_of_lt_of_le (Nat.lt_of_lt_of_le (ae s4) hb5.size) b5.size
have R5:=af r5
clear r5 b5 hb5 hf5 HR XU4 c1 c2 f1 f2
generalize w5.setCells (g5+1) (inc*4) [.bool s',.int .u64 x',.int .u64 y',.pointer p']=F at *
go_wp2
go_ret
refine⟨g5+1,rfl,?_,by omega,ae s5,ae B5⟩
have e:exF fs inc U=zxc (fun i=>if i<n then fs[i]?.getD 0*(((U:Nat):Int):Rat) else 0) inc ((if inc<n then fs[inc]?.getD 0*(((U:Nat):Int):Rat) else 0)-(((U:Nat):Int):Rat)):=by
 funext i
 unfold exF zxc
 rw[← ae HN]
 by_cases h:i=inc
 ·subst h;rw[if_pos rfl,if_pos rfl]
 ·rw[if_neg h,if_neg h];grind
rw[e]
exact ae R5)
open Go.RowKit Go.Shelf
attribute [local go_sem] Oper.semAt_some
def o9 (len k:Nat):List (Fin len):=((List.finRange len).drop k).reverse
theorem znv (len:Nat):o9 len len=[]:=by unfold o9;rw[List.drop_eq_nil_of_le (by simp)];rfl
theorem zla (len k:Nat) (h:k<len):o9 len k=o9 len (k+1)++[⟨k,h⟩]:=by(
unfold o9
rw[List.drop_eq_getElem_cons (by simpa using h),List.reverse_cons]
simp)
theorem zpb (len k:Nat):(o9 len k).length=len-k:=by unfold o9;simp
def zbe (n₀:Nat) (gs:List Nat) (A B:World):Prop:=∀ k,k<n₀→k ∉ gs→B.heap[k]? = A.heap[k]?
theorem zbe.refl (n₀:Nat) (gs:List Nat) (A:World):zbe n₀ gs A A:=fun _ _ _=>rfl
theorem zbe.trans {n₀:Nat} {gs:List Nat} {A B C:World} (h:zbe n₀ gs A B) (k:zbe n₀ gs B C):zbe n₀ gs A C:=fun i h1 h2=>(k i h1 h2).trans (h i h1 h2)
theorem zbe.cell {n₀:Nat} {gs:List Nat} {A B:World} (h:zbe n₀ gs A B) {p:Addr} (hp:p.block<n₀) (hn:p.block ∉ gs):B.cell? p=A.cell? p:=World.cell?_of_block (w:=A) (h p.block hp hn)
theorem zbe.put {n₀:Nat} {gs:List Nat} (W:World) (l:Nat) (o:Obj) (hl:n₀≤l):zbe n₀ gs W (W.putObj l o):=fun k hk _=>World.putObj_heap_other (by omega)
theorem qeo (F:Fence) (n:Nat) (hf:F.fn 205) (hro:F.round=none) (hn:1≤n) (l Bs n₀:Nat) (gs:List Nat) (b off len cap:Nat) (S:Nat→Bool) (X Y:Nat→Int) (Q:Nat→Option Addr) (hreach:len≤1000000) (hb:b<n₀) (hbg:b ∉ gs) (J Jx:List (Fin len)→World→Prop)
  (hY:∀ pre (x:Fin len) W,J pre W→pre.length<len→YieldAt F (n-1) prog l #[.int .i64 ((x.1:Nat):Int),.agg #[.bool (S x.1),.int .u64 (X x.1),.int .u64 (Y x.1),.pointer (Q x.1)]] W fun e W' =>
   (e=.returned (.bool true)∧J (pre++[x]) W'∧zbe n₀ gs W W')∨(e=.returned (.bool false)∧Jx (pre++[x]) W'))
  (W:World) (hBs:W.cell? ⟨Bs,0,none⟩=some (.slice (some ⟨b,off,none⟩) len cap)) (hBn:Bs<n₀) (hBg:Bs ∉ gs)
  (hc:∀ j,j<len→W.cell? ⟨b,off+j*4,none⟩=some (.bool (S j))∧W.cell? ⟨b,off+j*4+1,none⟩=some (.int .u64 (X j))∧W.cell? ⟨b,off+j*4+2,none⟩=some (.int .u64 (Y j))∧W.cell? ⟨b,off+j*4+3,none⟩=some (.pointer (Q j))) (h0:J [] W) :
  CallsIn F n prog 205 #[.func (.yield l) #[] #[],.pointer (some ⟨Bs,0,none⟩)] W fun e W'=>(∃ v,e=.returned v) ∧
   ((∃ ys,ys=o9 len 0∧J ys W')∨(∃ pre,True∧Jx pre W')):=by(
refine callsIn_of_wp func205 rfl hf ?_ hro
simp only[ntmps205,List.size_toArray,List.length_cons,List.length_nil,Nat.reduceAdd,Nat.reduceSub,Array.replicate_succ,Array.replicate_zero,List.push_toArray,List.append_toArray,List.nil_append,List.cons_append]
gi_wp2
gi_loopw [3] (fun i wr=>∃ k:Nat,k≤len∧i=.int .i64 ((k:Int)-1)∧J (o9 len k) wr∧zbe n₀ gs W wr) (fun i _=>(intOf i+1).toNat)
case atStart=>exact⟨len,Nat.le_refl _,rfl,by rw[znv];exact h0,zbe.refl _ _ _⟩
case round =>(
obtain⟨k,hk,rfl,hJs,hnx⟩:=hrel
by_cases hlt:k=0
·subst hlt
 gi_wp2
 go_end0
 exact⟨⟨_,rfl⟩,.inl ⟨_,rfl,hJs⟩⟩
·(
obtain⟨j,rfl⟩:∃ j,k=j+1:=⟨k-1,by omega⟩
rw[show (((j+1:Nat):Int)-1)=(j:Int) from by omega]
obtain⟨fn,tmps,assign,body,hy,hR⟩:=hY _ ⟨j,by omega⟩ wr hJs (by rw[zpb];omega)
dsimp only at hy
obtain⟨c0,c1,c2,c3⟩:=hc j (by omega)
have c0':=(hnx.cell (p:=⟨b,off+j*4,none⟩) hb hbg).trans c0
have c1':=(hnx.cell (p:=⟨b,off+j*4+1,none⟩) hb hbg).trans c1
have c2':=(hnx.cell (p:=⟨b,off+j*4+2,none⟩) hb hbg).trans c2
have c3':=(hnx.cell (p:=⟨b,off+j*4+3,none⟩) hb hbg).trans c3
have hBs':=(hnx.cell (p:=⟨Bs,0,none⟩) hBn hBg).trans hBs
clear hc c0 c1 c2 c3
gi_wp2
refine hR.mono ?_
rintro e W3 (⟨rfl,hJ3,hk3⟩|⟨rfl,hJx3⟩)
·gi_wp2
 go_roundw
 case rel=>exact⟨j,by omega,by simp,by rw[zla len j (by omega)];exact hJ3,hnx.trans hk3⟩
 case measure=>simp[intOf]
·gi_wp2
 refine bodyPost_ret (results_none rfl _ _ _) rfl ?_
 exact⟨⟨_,rfl⟩,.inr ⟨_,trivial,hJx3⟩⟩)))
theorem zwi (F:Fence) (n:Nat) (hf:F.fn 205) (hro:F.round=none) (hn:1≤n) (Bs n₀:Nat) (gs:List Nat) (b off len cap:Nat) (S:Nat→Bool) (X Y:Nat→Int) (Q:Nat→Option Addr) (hreach:len≤1000000) (w:World) (hb:b<n₀) (hbg:b ∉ gs) (hn₀:n₀≤w.heap.size)
  (hBs:w.cell? ⟨Bs,0,none⟩=some (.slice (some ⟨b,off,none⟩) len cap)) (hBn:Bs<n₀) (hBg:Bs ∉ gs)
  (hc:∀ j,j<len→w.cell? ⟨b,off+j*4,none⟩=some (.bool (S j))∧w.cell? ⟨b,off+j*4+1,none⟩=some (.int .u64 (X j))∧w.cell? ⟨b,off+j*4+2,none⟩=some (.int .u64 (Y j))∧w.cell? ⟨b,off+j*4+3,none⟩=some (.pointer (Q j))) :
  SeqStopsK F n prog 205 #[.pointer (some ⟨Bs,0,none⟩)] (fun x:Fin len=>#[.int .i64 ((x.1:Nat):Int),.agg #[.bool (S x.1),.int .u64 (X x.1),.int .u64 (Y x.1),.pointer (Q x.1)]]) (zbe n₀ gs) (fun ys=>ys=o9 len 0) (fun _=>True) len w:=fun l J Jx W hW _ _ hY h0 =>
 qeo F n hf hro hn l Bs n₀ gs b off len cap S X Y Q hreach hb hbg J Jx hY W ((hW.cell (p:=⟨Bs,0,none⟩) (by show Bs<_;omega)).trans hBs) hBn hBg (fun j hj=>by
  obtain⟨c0,c1,c2,c3⟩:=hc j hj
  have hbl:b<w.heap.size:=by omega
  exact⟨(hW.cell (p:=⟨b,off+j*4,none⟩) hbl).trans c0,(hW.cell (p:=⟨b,off+j*4+1,none⟩) hbl).trans c1,(hW.cell (p:=⟨b,off+j*4+2,none⟩) hbl).trans c2,(hW.cell (p:=⟨b,off+j*4+3,none⟩) hbl).trans c3⟩) h0
theorem qjn (F:Fence) (n:Nat) (hf:F.fn 166) (hro:F.round=none) (a:Option Addr) (len cap:Nat) (w:World) :
  CallsIn F n prog 166 #[.slice a len cap] w fun e w'=>e=.returned (.func (.func 205) #[] #[.pointer (some ⟨w.heap.size,0,none⟩)])∧w'=w.alloc (.cells #[.slice a len cap] 46):=by(
refine callsIn_of_wp func166 rfl hf ?_ hro
simp only[ntmps166,List.size_toArray,List.length_cons,List.length_nil,Nat.reduceAdd,Nat.reduceSub,Array.replicate_succ,Array.replicate_zero,List.push_toArray,List.append_toArray,List.nil_append,List.cons_append]
gi_wp2
go_ret
exact⟨rfl,rfl⟩)
attribute [local go_sem] Oper.semAt_some
theorem zlc {A B:World} {row:Option Nat} (hg:A.grownBy B row) (hr:∀ r,row=some r→∃ o:Obj,A.heap[r]? = some o∧o.isCells=false):Calm A B :=
 ⟨hg.size,fun k i v h=>by
  obtain⟨o,ho,hc⟩:=cells_of_cell h
  exact grownBy_keeps_cells hg hr ho hc⟩
theorem zoy {W V:World} {l gs:List Nat} (hb:But l W V) (hc:∀ g ∈ l,∃ v,W.cell? ⟨g,0,none⟩=some v) (B n₀:Nat) (hn:n₀≤W.heap.size) (hl:∀ g ∈ l,g ∈ gs∨n₀≤g):KeepsFrom B W V∧zbe n₀ gs W V :=
 ⟨⟨hb.size,fun k o _ hk ho=>by
  have hne:k ∉ l:=by
   intro hkl
   obtain⟨v,hv⟩:=hc k hkl
   obtain⟨o',ho',hc'⟩:=cells_of_cell hv
   rw[hk] at ho'
   obtain rfl:=Option.some.inj ho'
   rw[ho] at hc'
   simp at hc'
  exact (hb.block k (Array.getElem?_eq_some_iff.1 hk).1 hne).trans hk⟩,fun k hk hne=>hb.block k (by omega) (fun h=>(hl k h).elim hne (fun h=>by omega))⟩
structure zdb (w W0:World) (g4 g5 g7 g8:Nat) (S:Nat→Bool) (X Y:Nat→Int) (Q:Nat→Option Addr) (fs:List Rat) (o u sum pw:Rat) (W:World):Prop where
 b7:az W g7 sum
 b8:az W g8 pw
 b4:az W g4 o
 b5:az W g5 u
 all:∀ t,t<fs.length→am W (.agg #[.bool (S t),.int .u64 (X t),.int .u64 (Y t),.pointer (Q t)]) (fs[t]?.getD 0)
 size:W0.heap.size≤W.heap.size
 below:Below w.heap.size w W
theorem zdb.but {w W0:World} {g4 g5 g7 g8:Nat} {S:Nat→Bool} {X Y:Nat→Int} {Q:Nat→Option Addr} {fs:List Rat} {o u sum pw:Rat} {W V:World} (h:zdb w W0 g4 g5 g7 g8 S X Y Q fs o u sum pw W) (hb:But [] W V):zdb w W0 g4 g5 g7 g8 S X Y Q fs o u sum pw V :=
 ⟨h.b7.but hb,h.b8.but hb,h.b4.but hb,h.b5.but hb,fun t ht=>(h.all t ht).but hb,Nat.le_trans h.size hb.size,((But.of_below h.below).trans' hb).below⟩
theorem zdb.calm {w W0:World} {g4 g5 g7 g8:Nat} {S:Nat→Bool} {X Y:Nat→Int} {Q:Nat→Option Addr} {fs:List Rat} {o u sum pw:Rat} {W V:World} (h:zdb w W0 g4 g5 g7 g8 S X Y Q fs o u sum pw W) (hc:Calm W V) (hb:Below w.heap.size w V):zdb w W0 g4 g5 g7 g8 S X Y Q fs o u sum pw V :=
 ⟨h.b7.calm hc,h.b8.calm hc,h.b4.calm hc,h.b5.calm hc,fun t ht=>(h.all t ht).calm hc,Nat.le_trans h.size hc.size,hb⟩
theorem zdb.qrt {w W0:World} {g4 g5 g7 g8:Nat} {S:Nat→Bool} {X Y:Nat→Int} {Q:Nat→Option Addr} {fs:List Rat} {o u sum pw sum':Rat} {W:World} (h:zdb w W0 g4 g5 g7 g8 S X Y Q fs o u sum pw W) (od:w.heap.size≤g4∧g4<g5∧g5<g7∧g7<g8) {s:Bool} {x y:Int} {p:Option Addr} (hf:am W (.agg #[.bool s,.int .u64 x,.int .u64 y,.pointer p]) sum'):zdb w W0 g4 g5 g7 g8 S X Y Q fs o u sum' pw (jc W g7 s x y p):=by(
have hP:=aw W g7 s x y p
obtain⟨c,hc⟩:=h.b7.bool
have hcs:∀ g ∈ [g7],∃ s,W.cell? ⟨g,0,none⟩=some (.bool s):=fun g hg=>by simp at hg;subst hg;exact⟨c,hc⟩
exact⟨h.b7.put hf,h.b8.beside hP (by simp;omega) hcs,h.b4.beside hP (by simp;omega) hcs,h.b5.beside hP (by simp;omega) hcs,fun t ht=>(h.all t ht).over hc hP,Nat.le_trans h.size hP.size,((But.of_below h.below).trans hP (fun x hx=>by simp at hx;subst hx;exact .inr (by omega))).below⟩)
theorem zdb.qrs {w W0:World} {g4 g5 g7 g8:Nat} {S:Nat→Bool} {X Y:Nat→Int} {Q:Nat→Option Addr} {fs:List Rat} {o u sum pw pw':Rat} {W:World} (h:zdb w W0 g4 g5 g7 g8 S X Y Q fs o u sum pw W) (od:w.heap.size≤g4∧g4<g5∧g5<g7∧g7<g8) {s:Bool} {x y:Int} {p:Option Addr} (hf:am W (.agg #[.bool s,.int .u64 x,.int .u64 y,.pointer p]) pw'):zdb w W0 g4 g5 g7 g8 S X Y Q fs o u sum pw' (jc W g8 s x y p):=by(
have hP:=aw W g8 s x y p
obtain⟨c,hc⟩:=h.b8.bool
have hcs:∀ g ∈ [g8],∃ s,W.cell? ⟨g,0,none⟩=some (.bool s):=fun g hg=>by simp at hg;subst hg;exact⟨c,hc⟩
exact⟨h.b7.beside hP (by simp;omega) hcs,h.b8.put hf,h.b4.beside hP (by simp;omega) hcs,h.b5.beside hP (by simp;omega) hcs,fun t ht=>(h.all t ht).over hc hP,Nat.le_trans h.size hP.size,((But.of_below h.below).trans hP (fun x hx=>by simp at hx;subst hx;exact .inr (by omega))).below⟩)
theorem zvh (f:Nat→Rat) (o u:Rat) (c:Nat) (ho:Len o c) (hu:Len u c):∀ (l:List Nat) (q:Rat × Rat) (a s:Nat),Len q.1 s→Len q.2 a→(∀ t ∈ l,Len (f t) c)→Len (l.foldl (zsi f o u) q).1 (s+l.length*(a+l.length*c+2*c+1))∧Len (l.foldl (zsi f o u) q).2 (a+l.length*c)
 | [],q,a,s,h1,h2,_=>⟨h1.mono (by omega),h2.mono (by omega)⟩
 | t::l,q,a,s,h1,h2,h=>by
  have hf:=h t (by simp)
  have l1:Len (zsi f o u q t).1 (s+a+2*c+1):=zsf (zan h1 ho (s+c) (by omega)) (zan hf h2 (c+a) (by omega)) _ (by omega)
  have l2:Len (zsi f o u q t).2 (a+c):=zan h2 hu _ (by omega)
  have ih:=zvh f o u c ho hu l (zsi f o u q t) (a+c) (s+a+2*c+1) l1 l2 (fun z hz=>h z (by simp[hz]))
  have e0:(t::l).length=l.length+1:=rfl
  have e1:(l.length+1)*c=l.length*c+c:=Nat.succ_mul _ _
  rw[e0]
  refine⟨ih.1.mono ?_,ih.2.mono (by rw[e1];omega)⟩
  rw[e1,show ∀ z,(l.length+1)*z=l.length*z+z from fun z=>Nat.succ_mul _ _]
  have e2:a+c+l.length*c+2*c+1=a+(l.length*c+c)+2*c+1:=by omega
  rw[e2]
  generalize l.length*(a+(l.length*c+c)+2*c+1)=z
  omega
theorem qdo (f:Nat→Rat) (o u:Rat) (c:Nat) (ho:Len o c) (hu:Len u c) (l:List Nat) (h:∀ t ∈ l,Len (f t) c):Len (l5 f o u l).1 (l.length*(l.length*c+2*c+2)+1)∧Len (l5 f o u l).2 (l.length*c+1):=by(
have h1:=zvh f o u c ho hu l (0,1) 1 1 (zim _ (by omega)) (zct 1 (by decide)) h
unfold l5
refine⟨h1.1.mono ?_,h1.2.mono (by omega)⟩
rw[show 1+l.length*c+2*c+1=l.length*c+2*c+2 from by omega]
omega)
theorem qfn (b off cap n:Nat) (fs:List Rat) (c:Nat) (vo vu:Value) (o u:Rat) (w:World) (hv:aq w (.slice (some ⟨b,off,none⟩) n cap) fs) (hN:n=fs.length) (hn0:0<n) (hn1:n≤50) (ho:am w vo o) (hu:am w vu u) (lf:∀ f ∈ fs,Len f c) (hc:c≤100) (lo:Len o c) (lu:Len u c) :
  Calls prog 87 #[.slice (some ⟨b,off,none⟩) n cap,vo,vu] w fun e w'=>e=.returned (.bool (decide ((l5 (fun t=>fs[t]?.getD 0) o u ((o9 fs.length 0).map (·.1))).1≤0)))∧But [] w w':=by(
subst hN
obtain⟨S,X,Y,Q,hV⟩:∃ (S:Nat→Bool) (X Y:Nat→Int) (Q:Nat→Option Addr),∀ t,t<fs.length→P4o w b (off+t*4) (S t) (X t) (Y t) (Q t)∧am w (.agg #[.bool (S t),.int .u64 (X t),.int .u64 (Y t),.pointer (Q t)]) (fs[t]?.getD 0):=by
 have h:∀ t,∃ q:Bool × Int × Int × Option Addr,t<fs.length→P4o w b (off+t*4) q.1 q.2.1 q.2.2.1 q.2.2.2∧am w (.agg #[.bool q.1,.int .u64 q.2.1,.int .u64 q.2.2.1,.pointer q.2.2.2]) (fs[t]?.getD 0):=fun t=>by
  by_cases ht:t<fs.length
  ·obtain⟨s,x,y,p,h1,h2⟩:=hv.get t (by omega)
   exact⟨(s,x,y,p),fun _=>⟨h1,h2⟩⟩
  ·exact⟨(false,0,0,none),fun h=>absurd h ht⟩
 obtain⟨q,hq⟩:=Classical.axiomOfChoice h
 exact⟨fun t=>(q t).1,fun t=>(q t).2.1,fun t=>(q t).2.2.1,fun t=>(q t).2.2.2,hq⟩
obtain⟨ws,wx,FW,CW⟩:=zar 1 (by omega) (by omega)
have HCW:=af CW
have HFW:=af FW
obtain⟨x1,y1,p1,rfl,-⟩:=ho.agg
obtain⟨x2,y2,p2,rfl,-⟩:=hu.agg
generalize hsf:decide (o.num<0)=s1 at *
generalize hsg:decide (u.num<0)=s2 at *
clear hsf hsg FW CW
obtain⟨W1,hW1⟩:∃ W1,W1=((w.alloc (.cells #[.bool s1,.int .u64 x1,.int .u64 y1,.pointer p1] 27)).alloc (.cells #[.bool s2,.int .u64 x2,.int .u64 y2,.pointer p2] 27)).alloc (.cells #[.bool false,.int .u64 0,.int .u64 0,.pointer none] 27):=⟨_,rfl⟩
have x4:az W1 w.heap.size o:=by rw[hW1];exact ((az.new w s1 x1 y1 p1 o 27 ho).but ((But.refl _ _).alloc _)).but ((But.refl _ _).alloc _)
have x5:az W1 (w.heap.size+1) u:=by
 rw[hW1]
 have h:=(az.new (w.alloc (.cells #[.bool s1,.int .u64 x1,.int .u64 y1,.pointer p1] 27)) s2 x2 y2 p2 u 27 (hu.but ((But.refl _ _).alloc _))).but ((But.refl _ _).alloc (.cells #[.bool false,.int .u64 0,.int .u64 0,.pointer none] 27))
 rw[show (w.alloc (.cells #[.bool s1,.int .u64 x1,.int .u64 y1,.pointer p1] 27)).heap.size=w.heap.size+1 from by simp] at h
 exact h
have x7:az W1 (w.heap.size+1+1) 0:=by
 rw[hW1]
 have h:=az.new ((w.alloc (.cells #[.bool s1,.int .u64 x1,.int .u64 y1,.pointer p1] 27)).alloc (.cells #[.bool s2,.int .u64 x2,.int .u64 y2,.pointer p2] 27)) false 0 0 none 0 27 (dz _)
 rw[show ((w.alloc (.cells #[.bool s1,.int .u64 x1,.int .u64 y1,.pointer p1] 27)).alloc (.cells #[.bool s2,.int .u64 x2,.int .u64 y2,.pointer p2] 27)).heap.size=w.heap.size+1+1 from by simp] at h
 exact h
have bW:But [] w W1:=by rw[hW1];exact (((But.refl _ _).alloc _).alloc _).alloc _
have X4:=af x4
have X5:=af x5
have X7:=af x7
have BW:=af bW
have HV:=af hV
clear x4 x5 x7 bW hV ho hu hv
refine (callsIn_wide (n:=4)).1 ?_
refine callsIn_of_wp_marks func87 rfl trivial ?_ rfl
simp only[ntmps87,List.size_toArray,List.length_cons,List.length_nil,Nat.reduceAdd,Nat.reduceSub,Array.replicate_succ,Array.replicate_zero,List.push_toArray,List.append_toArray,List.nil_append,List.cons_append]
gi_wp2_with fail
rw[← hW1]
clear hW1
refine⟨trivial,(callsIn_wide.2 (ae HCW _)).mono ?_⟩
rintro e V ⟨rfl,hb1⟩
have BN:=af ((ae BW).trans' hb1)
have X41:=af ((ae X4).but hb1)
have X51:=af ((ae X5).but hb1)
have X71:=af ((ae X7).but hb1)
have l7:w.heap.size+1+1<V.heap.size:=((ae X7).but hb1).lt
clear hb1 X4 X5 X7 BW HCW
generalize hg7:w.heap.size+1+1=g7 at *
generalize hg5:w.heap.size+1=g5 at *
generalize hg4:w.heap.size=g4 at *
gi_wp2_with (refine⟨trivial,?_⟩;gi_at_call 166;refine (qjn Fence.wide _ trivial rfl _ _ _ _).mono ?_;rintro e w' ⟨rfl,rfl⟩)
have e8:=(az.new V ws wx 0 none ((1:Int):Rat) 27 (ae HFW V))
obtain⟨W0,hW0⟩:∃ W0,(V.alloc (.cells #[.bool ws,.int .u64 wx,.int .u64 0,.pointer none] 27)).alloc (.cells #[.slice (some ⟨b,off,none⟩) fs.length cap] 46)=W0:=⟨_,rfl⟩
have hz:W0.heap.size=V.heap.size+1+1:=by rw[← hW0];simp
have b8:az W0 V.heap.size ((1:Int):Rat):=by rw[← hW0];exact e8.but ((But.refl _ _).alloc _)
have cB:W0.cell? ⟨V.heap.size+1,0,none⟩=some (.slice (some ⟨b,off,none⟩) fs.length cap):=by
 rw[← hW0]
 have n2:((V.alloc (.cells #[.bool ws,.int .u64 wx,.int .u64 0,.pointer none] 27)).alloc (.cells #[.slice (some ⟨b,off,none⟩) fs.length cap] 46)).cell? ⟨(V.alloc (.cells #[.bool ws,.int .u64 wx,.int .u64 0,.pointer none] 27)).heap.size,0,none⟩=some (.slice (some ⟨b,off,none⟩) fs.length cap):=by rw[World.cell?_alloc_new];rfl
 rw[World.size_alloc] at n2
 exact n2
have hBV:But [] V W0:=by rw[← hW0];exact ((But.refl _ _).alloc _).alloc _
rw[hW0]
clear hW0 e8
have hB0:But [] w W0:=(ae BN).trans' hBV
have b4:=(ae X41).but hBV
have b5:=(ae X51).but hBV
have b7:=(ae X71).but hBV
obtain⟨g8,hg8⟩:∃ g8,g8=V.heap.size:=⟨_,rfl⟩
obtain⟨gB,hgB⟩:∃ gB,gB=V.heap.size+1:=⟨_,rfl⟩
rw[← hgB] at cB
rw[← hg8] at b8
rw[← hgB,← hg8]
have hbw:b<w.heap.size:=ai (ae HV 0 hn0).1.1
have hord:w.heap.size≤g4∧g4<g5∧g5<g7∧g7<g8:=by omega
have oB:g8<gB:=by omega
have oW:gB<W0.heap.size:=by omega
have hlw:=fun t (ht:t<fs.length)=>show Len (fs[t]?.getD 0) c by rw[List.getElem?_eq_getElem ht];exact lf _ (List.getElem_mem ht)
have HLW:=af hlw
have HORD:=af hord
have ob7:b<g4:=by omega
clear hg8 hgB hz hlw
refine wpIn_rangeFunc_ownH rfl (by omega) (gf := 205) (lb:=#[.pointer (some ⟨gB,0,none⟩)]) rfl trivial (enters_of func205 (by kernel_rfl) rfl)
 (zwi Fence.wide _ trivial rfl (by omega) gB W0.heap.size [g7,g8] b off fs.length cap S X Y Q (by omega) W0 (by omega) (by simp;omega) (Nat.le_refl _) cB (by omega) (by simp;omega) (fun j hj=>(ae HV j hj).1.but hB0 (by simp)))
 (fun h k=>zbe.trans h k) (fun W l o o' hl _ _ _=>zbe.put W l o' hl) (Below.refl _ _) (fun _=>rfl)
 (fun (pre:List (Fin fs.length)) W=>zdb w W0 g4 g5 g7 g8 S X Y Q fs o u (l5 (fun t=>fs[t]?.getD 0) o u (pre.map (fun z:Fin fs.length=>z.1))).1 (l5 (fun t=>fs[t]?.getD 0) o u (pre.map (fun z:Fin fs.length=>z.1))).2 W)
 (fun _ _ _=>False)
 (fun pre A B row hi hg hr=>hi.calm (zlc hg (fun r e=>(hr r e).2)) (ownFrom_below (β:=Unit) (Nat.le_refl _) (by omega) () A B row hi.below hg hr))
 (fun _ _ _ _ _ h _ _=>h)
 ⟨b7,b8,b4,b5,fun t ht=>(ae HV t ht).2.but hB0,Nat.le_refl _,hB0.below⟩
 (fun x a' W=>∃ Bx,W0.heap.size≤Bx∧az W Bx (fs[x.1]?.getD 0)∧a'={ tmps:=#[.slice (some ⟨b,off,none⟩) fs.length cap,.agg #[.bool s1,.int .u64 x1,.int .u64 y1,.pointer p1],.agg #[.bool s2,.int .u64 x2,.int .u64 y2,.pointer p2],undef,.pointer (some ⟨g4,0,none⟩),.pointer (some ⟨g5,0,none⟩),.bool false,.pointer (some ⟨g7,0,none⟩),.pointer (some ⟨g8,0,none⟩),undef,.pointer (some ⟨Bx,0,none⟩),.agg #[.bool ws,.int .u64 wx,.int .u64 0,.pointer none],.slice (some ⟨b,off,none⟩) fs.length cap,.func (.func 205) #[] #[.pointer (some ⟨gB,0,none⟩)],.int .i64 ((x.1:Nat):Int),.agg #[.bool (S x.1),.int .u64 (X x.1),.int .u64 (Y x.1),.pointer (Q x.1)],undef,undef,undef,undef,undef,undef,undef,undef,undef,undef,undef,undef,undef],defers:=[] })
 (fun x a' _ A B row ⟨Bx,h0,h1,e⟩ hg hr=>⟨Bx,h0,h1.calm (zlc hg (fun r e=>(hr r e).2)),e⟩) ?assign ?body ?done ?stop
case assign =>(
rintro l pre x W K hi hK
gi_wp2
have hbn:=(But.refl [] W).alloc (.cells #[.bool (S x.1),.int .u64 (X x.1),.int .u64 (Y x.1),.pointer (Q x.1)] 27)
exact hK _ _ ((KeepsOthers.alloc _ _).from _) (fun k hk _=>hbn.block k (by have:=hi.size;omega) (by simp)) (hi.but hbn) ⟨W.heap.size,hi.size,az.new W _ _ _ _ _ 27 (hi.all x.1 x.2),rfl⟩)
case body =>(
rintro l pre ⟨t,ht⟩ a' W hl' ⟨rec,hrec⟩ hi ⟨Bx,hBx,hx,rfl⟩ hlt
have hlen:∀ s ∈ pre.map (·.1),Len ((fun t=>fs[t]?.getD 0) s) c:=fun s hs=>by
 obtain⟨y,-,rfl⟩:=List.mem_map.1 hs
 exact ae HLW y.1 y.2
have hw:=qdo (fun t=>fs[t]?.getD 0) o u c lo lu (pre.map (·.1)) hlen
have hsn:Hid (l5 (fun t=>fs[t]?.getD 0) o u ((pre++[(⟨t,ht⟩:Fin fs.length)]).map (·.1))=zsi (fun t=>fs[t]?.getD 0) o u (l5 (fun t=>fs[t]?.getD 0) o u (pre.map (·.1))) t):=by
 show _=_
 rw[List.map_append]
 unfold l5
 rw[List.foldl_append]
 rfl
rw[List.length_map] at hw
have hpl:pre.length≤50:=by omega
have m1:pre.length*c≤50*100:=Nat.mul_le_mul hpl hc
have m2:pre.length*(pre.length*c+2*c+2)≤50*5202:=Nat.mul_le_mul hpl (by omega)
have ls:=hw.1.mono (show pre.length*(pre.length*c+2*c+2)+1≤261000 by omega)
have lp:=hw.2.mono (show pre.length*c+1≤5001 by omega)
generalize l5 (fun t=>fs[t]?.getD 0) o u (pre.map (·.1))=q at *
obtain⟨sm,pw⟩:=q
dsimp only at hi hx ls lp
have HI:=af hi
have HX:=af hx
have lt':=ae HLW t ht
obtain⟨⟨s7,x7,y7,p7,c7,f7⟩,z7⟩:=id hi.b7
obtain⟨⟨t4,a4,b4',q4,c4,f4⟩,-⟩:=id hi.b4
obtain⟨⟨sx,xx,yx,px,cx,fx⟩,-⟩:=id hx
obtain⟨⟨s8,x8,y8,p8,c8,f8⟩,-⟩:=id hi.b8
clear hi hx hw m1 m2 hlen
gi_wp2
refine zrc 5 l _ _ _ W s7 x7 y7 p7 t4 a4 b4' q4 sx xx yx px s8 x8 y8 p8 sm o (fs[t]?.getD 0) pw g7 g4 Bx g8 (by simp) (by simp[Act.eval]) (by simp[Act.eval]) (by simp[Act.eval]) (by simp[Act.eval]) c7 z7 c4 cx c8 (fun w' hb=>j4 _ _ _ _ w' (f7.but hb) (f4.but hb) (ls.mono (by omega)) (lo.mono (by omega))) (fun w' hb=>j4 _ _ _ _ w' (fx.but hb) (f8.but hb) (lt'.mono (by omega)) (lp.mono (by omega))) (fun w' v v' hb h1 h2=>zba 300000 10000 (by omega) _ _ _ _ w' h1 h2 (zan ls lo 300000 (by omega)) (zan lt' lp 10000 (by omega))) ?_
intro w1 v2 v5 s' x' y' p' hb1 hf1
simp only[bi,List.foldl_cons,List.foldl_nil,Act.put,List.setIfInBounds_toArray,List.set_cons_zero,List.set_cons_succ]
have I1:=af (((ae HI).but hb1).qrt (ae HORD) hf1)
have JB:Hid (But [g7,g8] W (jc w1 g7 s' x' y' p')):=(But.of_nil hb1).trans (aw w1 g7 s' x' y' p') (fun z hz=>by simp at hz;subst hz;exact .inl (by simp))
clear hb1 hf1 c7 z7 c4 cx c8 f7 f4 fx f8
generalize jc w1 g7 s' x' y' p'=V1 at *
obtain⟨⟨s8,x8,y8,p8,⟨k0,k1,k2,k3⟩,f8⟩,z8⟩:=id (ae I1).b8
obtain⟨⟨s5,x5,y5,p5,⟨l0,l1,l2,l3⟩,f5⟩,-⟩:=id (ae I1).b5
have MU:=af (znq (j4 _ _ _ _ V1 f8 f5 (lp.mono (by omega)) (lu.mono (by omega))))
have gl8:g8<V1.heap.size:=ai k0
clear f8 f5
gi_wp2_with fail
refine⟨trivial,(CallsIn.inRound l (callsIn_wide.2 (ae MU))).mono ?_⟩
rintro e w2 ⟨s3,x3,y3,p3,rfl,hf3,hb3⟩
have I3:=af ((ae I1).but hb3)
have HF3:=af hf3
have JB3:=af ((ae JB).trans (But.of_nil (l:=[g7,g8]) hb3) (fun z hz=>.inl hz))
obtain⟨⟨s9,x9,y9,p9,⟨k0',k1',k2',k3'⟩,-⟩,z9⟩:=id (ae I3).b8
have gl8':g8<w2.heap.size:=ai k0'
clear hf3 hb3 MU k0 k1 k2 k3 l0 l1 l2 l3 z8 I1 JB
gi_wp2
have hi5:=(ae I3).qrs (ae HORD) (ae HF3)
have kp:=zoy (l:=[g7,g8]) (gs:=[g7,g8]) ((ae JB3).trans (aw w2 g8 s3 x3 y3 p3) (fun z hz=>by simp at hz;subst hz;exact .inl (by simp))) (fun z hz=>by
 simp at hz
 rcases hz with rfl|rfl
 ·exact⟨_,(ae HI).b7.bool.choose_spec⟩
 ·exact⟨_,(ae HI).b8.bool.choose_spec⟩) W0.heap.size W0.heap.size (ae HI).size (fun z hz=>.inl hz)
refine⟨kp.1,kp.2,?_⟩
show zdb w W0 g4 g5 g7 g8 S X Y Q fs o u _ _ _
rw[ae hsn]
exact hi5)
case done =>(
rintro D ys W hD rfl hi hK
obtain⟨⟨s7,x7,y7,p7,⟨a0,a1,a2,a3⟩,f7⟩,z7⟩:=id hi.b7
have SG:=af (ni _ _ W f7)
have HI:=af hi
have HK:=af hK
have hDl:D<W.heap.size:=(Array.getElem?_eq_some_iff.1 hK).1
generalize hsm:(l5 (fun t=>fs[t]?.getD 0) o u ((o9 fs.length 0).map (fun z:Fin fs.length=>z.1))).1=sm at *
obtain⟨sg,hsg⟩:∃ sg,sg=sm.num.sign:=⟨_,rfl⟩
rw[← hsg] at SG
have es:decide (sg≤0)=decide (sm≤0):=by
 have h1:sm≤0↔sm.num≤0:=by rw[Rat.le_iff];simp
 have h2:sg≤0↔sm.num≤0:=by
  rw[hsg]
  rcases Int.lt_trichotomy sm.num 0 with h | h | h
  ·rw[Int.sign_eq_neg_one_of_neg h];omega
  ·rw[h];decide
  ·rw[Int.sign_eq_one_of_pos h];omega
 by_cases h:sg≤0
 ·rw[decide_eq_true h,decide_eq_true (h1.2 (h2.1 h))]
 ·rw[decide_eq_false h,decide_eq_false (fun h'=>h (h2.2 (h1.1 h')))]
have HES:=af es
have HSM:=af hsm
clear hi hK f7 z7 es hsg hsm
gi_wp2_with fail
refine⟨trivial,(callsIn_wide.2 (ae SG)).mono ?_⟩
rintro e w5 ⟨rfl,hb5⟩
have hK5:Hid (w5.heap[D]? = some (.deferred (some []))):=(hb5.block D hDl (by simp)).trans (ae HK)
have I5:=af ((ae HI).but hb5)
clear hb5 SG a0 a1 a2 a3 HI HK
gi_wp2
have hB1:But [] w w5:=But.of_below (ae I5).below
have hB2:But [] w (w5.putObj D (.deferred none)):=hB1.trans (l':=[D]) ⟨rfl,rfl,rfl,by simp,fun k _ hk=>World.putObj_heap_other (by simpa using hk)⟩ (fun x hx=>by simp at hx;subst hx;exact .inr (by omega))
refine⟨by simp,.inl ⟨_,_,rfl,run_takeDeferred (ae hK5),?_⟩⟩
refine⟨.bool (decide (sg≤0)),(by simp[results,results87,go_sem]),?_,hB2⟩
rw[ae HES,← ae HSM])
case stop =>
 rintro D c pre W _ _ h
 exact h.elim)
theorem zfn {fs:List Rat} (h:ol fs=0):0<fs.length∧fs.length≤201∧(∀ f ∈ fs,0≤f)∧zdd fs=1:=by(
unfold ol at h
by_cases h1:fs.length<1∨201<fs.length
·rw[if_pos h1] at h;simp at h
·(
rw[if_neg h1] at h
by_cases h2:fs.any (fun f=>decide (f.num<0))=true
·rw[if_pos h2] at h;simp at h
·(
rw[if_neg h2] at h
by_cases h3:zdd fs=1
·(
refine⟨by omega,by omega,fun f hf=>?_,h3⟩
have h4:fs.any (fun f=>decide (f.num<0))=false:=by simpa using h2
rw[List.any_eq_false] at h4
have:=h4 f hf
simp at this
exact this)
·rw[if_neg h3] at h;simp at h)))
theorem zzn (fs:List Rat):∀ k,k≤fs.length→zdd (fs.take k)=sgR (fun j=>fs[j]?.getD 0) k
 | 0,_=>rfl
 | k+1,h=>by
  rw[zfv fs k (by omega),zzn fs k (by omega)]
  rfl
theorem qfa (fs:List Rat):zdd fs=sgR (fun j=>fs[j]?.getD 0) fs.length:=by(
have h:=zzn fs fs.length (Nat.le_refl _)
rw[List.take_length] at h
exact h)
end Go.Proofs.YtagmkkiagjmimaaGreatDoor
