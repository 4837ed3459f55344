/- Lines that say the least amiss, plain; p -/
import Derived.Test.YtagmkkiagjmimaaGreatDoorRIR
namespace Go.Proofs.YtagmkkiagjmimaaGreatDoor
open Go.Proofs.Tryz
set_option maxHeartbeats 32000000
set_option maxRecDepth 100000
theorem qbl (f:Nat→Rat) (c:Rat) (n:Nat):sgR (fun k=>f k*c) n=sgR f n*c:=by
 rw[Rat.mul_comm,← zfw]
 exact mi _ _ n (fun k _=>Rat.mul_comm _ _)
open Go.RowKit
theorem zzv (f:Rat):f*((f.den:Int):Rat)=((f.num:Int):Rat):=by(
have h0:((f.den:Int):Rat)≠0:=fun h=>by
 have h2:((f.den:Int):Rat)=((0:Int):Rat):=h
 have:=Rat.intCast_inj.1 h2
 have:=den_pos f
 omega
have h2:=Rat.div_mul_cancel (a:=((f.num:Int):Rat)) h0
rw[← Rat.divInt_eq_div,Rat.num_divInt_den] at h2
exact h2)
theorem zwh:∀ (fs:List Rat) (U:Nat),∃ k,jf U fs=U*k
 | [],U=>⟨1,by rw[Nat.mul_one];rfl⟩
 | f::fs,U=>by
  obtain⟨k,hk⟩:=zwh fs (yh U f)
  exact⟨(f*(((U:Nat):Int):Rat)).den*k,by
   show jf (yh U f) fs=_
   rw[hk]
   unfold yh
   rw[Nat.mul_assoc]⟩
theorem zjx:∀ (fs:List Rat) (U:Nat) (f:Rat),f ∈ fs→∃ z:Int,f*(((jf U fs:Nat):Int):Rat)=((z:Int):Rat)
 | [],_,f,h=>by simp at h
 | g::fs,U,f,h=>by
  rcases List.mem_cons.1 h with rfl | h2
  ·obtain⟨k,hk⟩:=zwh fs (yh U f)
   refine⟨(f*(((U:Nat):Int):Rat)).num*(k:Int),?_⟩
   show f*(((jf (yh U f) fs:Nat):Int):Rat)=_
   have e:=zzv (f*(((U:Nat):Int):Rat))
   rw[hk]
   unfold yh
   rw[Int.natCast_mul,Int.natCast_mul,Rat.intCast_mul,Rat.intCast_mul,Rat.intCast_mul,← e]
   grind
  ·exact zjx fs (yh U g) f h2
theorem zgi:∀ (fs:List Rat) (U:Nat),0<U→0<jf U fs
 | [],_,h=>h
 | f::fs,U,h=>zgi fs (yh U f) (Nat.mul_pos h (den_pos _))
theorem zfo {fs:List Rat} {k:Nat} (h:fs.length≤k):atR fs k=0:=by
 unfold atR
 rw[List.getElem?_eq_none (by omega)];rfl
theorem qar {fs:List Rat} (h:∀ f ∈ fs,0≤f) (k:Nat):0≤atR fs k:=by(
by_cases hk:k<fs.length
·unfold atR
 rw[List.getElem?_eq_getElem hk]
 exact h _ (List.getElem_mem hk)
·rw[zfo (by omega)];decide)
def sgN (f:Nat→Nat):Nat→Nat
 | 0=>0
 | k+1=>sgN f k+f k
theorem zlo (f:Nat→Nat) (g:Nat→Rat):∀ n,(∀ k,k<n→(((f k:Nat):Int):Rat)=g k)→(((sgN f n:Nat):Int):Rat)=sgR g n
 | 0,_=>rfl
 | n+1,h=>by
  have ih:=zlo f g n (fun k hk=>h k (by omega))
  have h1:=h n (by omega)
  show (((sgN f n+f n:Nat):Int):Rat)=sgR g n+g n
  rw[← ih,← h1,Int.natCast_add,Rat.intCast_add]
theorem qfh (f g:Nat→Nat):∀ n,(∀ k,k<n→f k≤g k)→sgN f n≤sgN g n
 | 0,_=>Nat.le_refl _
 | n+1,h=>Nat.add_le_add (qfh f g n (fun k hk=>h k (by omega))) (h n (by omega))
theorem ztq (f:Nat→Nat) (k:Nat):∀ d,sgN f k≤sgN f (k+d)
 | 0=>Nat.le_refl _
 | d+1=>Nat.le_trans (ztq f k d) (Nat.le_add_right _ _)
theorem zzs (f:Nat→Nat) (c:Nat):∀ n,sgN (fun k=>f k*c) n=sgN f n*c
 | 0=>by
  show 0=0*c
  rw[Nat.zero_mul]
 | n+1=>by
  show sgN (fun k=>f k*c) n+f n*c=(sgN f n+f n)*c
  rw[zzs f c n,Nat.add_mul]
def lsN (a:Nat→Nat) (n c:Nat):Nat→Nat→Nat
 | 0,_=>1
 | t+1,s=>sgN (fun x=>a x*lsN a n c t (s+c-x)) (min n (s+c+1))
theorem zvg (a:Nat→Nat) (n c U t s:Nat) (hU:sgN a n=U) (h:∀ s,lsN a n c t s≤U^t) (k:Nat) (hk:k≤n):sgN (fun x=>a x*lsN a n c t (s+c-x)) k≤U^(t+1):=by(
have h1:sgN (fun x=>a x*lsN a n c t (s+c-x)) k≤sgN (fun x=>a x*U^t) k:=qfh _ _ k (fun x _=>Nat.mul_le_mul_left _ (h _))
have h2:=ztq (fun x=>a x*U^t) k (n-k)
rw[show k+(n-k)=n from by omega,zzs a (U^t) n,hU] at h2
rw[Nat.pow_succ,Nat.mul_comm]
exact Nat.le_trans h1 h2)
theorem zni (a:Nat→Nat) (n c U:Nat) (hU:sgN a n=U):∀ t s,lsN a n c t s≤U^t
 | 0,_=>by
  rw[Nat.pow_zero]
  exact Nat.le_refl _
 | t+1,s=>zvg a n c U t s hU (fun s=>zni a n c U hU t s) (min n (s+c+1)) (Nat.min_le_left _ _)
theorem zfd (U:Nat):∀ t,zw (((U:Nat):Int):Rat) t=(((U^t:Nat):Int):Rat)
 | 0=>by rw[Nat.pow_zero];rfl
 | t+1=>by
  show zw (((U:Nat):Int):Rat) t*(((U:Nat):Int):Rat)=_
  rw[zfd U t,Nat.pow_succ,Int.natCast_mul,Rat.intCast_mul]
theorem zsb (p:Nat→Rat) (a:Nat→Nat) (n c U:Nat) (h:∀ x,(((a x:Nat):Int):Rat)=p x*(((U:Nat):Int):Rat)):∀ t s,(((lsN a n c t s:Nat):Int):Rat)=zw (((U:Nat):Int):Rat) t*phi p n c t s
 | 0,_=>by
  show (1:Rat)=1*1
  grind
 | t+1,s=>by
  have ih:=zsb p a n c U h t
  show (((sgN (fun x=>a x*lsN a n c t (s+c-x)) (min n (s+c+1)):Nat):Int):Rat)=zw (((U:Nat):Int):Rat) t*(((U:Nat):Int):Rat)*sgR (fun x=>p x*phi p n c t (s+c-x)) (min n (s+c+1))
  rw[← zfw]
  refine zlo _ _ _ (fun x _=>?_)
  rw[Int.natCast_mul,Rat.intCast_mul,h x,ih]
  grind
theorem zrw {a b:Nat} (h:(((a:Nat):Int):Rat)=(((b:Nat):Int):Rat)):a=b:=by
 have:=Rat.intCast_inj.1 h
 omega
theorem qib (p:Nat→Rat) (a:Nat→Nat) (n c U:Nat) (h:∀ x,(((a x:Nat):Int):Rat)=p x*(((U:Nat):Int):Rat)) (h1:sgR p n=1) (t s:Nat) (hs:(t:Int)*((n:Int)-1-(c:Int))≤(s:Int)):lsN a n c t s=U^t:=by(
refine zrw ?_
rw[zsb p a n c U h t s,zna p n c h1 t s hs,zfd]
grind)
theorem qkq (p:Nat→Rat) (a:Nat→Nat) (n U:Nat) (h:∀ x,(((a x:Nat):Int):Rat)=p x*(((U:Nat):Int):Rat)) (h1:sgR p n=1):sgN a n=U:=by(
refine zrw ?_
rw[zlo a (fun x=>(((U:Nat):Int):Rat)*p x) n (fun k _=>by rw[h k];grind),zfw,h1]
grind)
theorem zpx (p:Nat→Rat) (a:Nat→Nat) (n c U:Nat) (hU:0<U) (h:∀ x,(((a x:Nat):Int):Rat)=p x*(((U:Nat):Int):Rat)) (t s:Nat):(((lsN a n c t s:Nat):Int):Rat)/zw (((U:Nat):Int):Rat) t=phi p n c t s:=by(
have hp:=zfc (((U:Nat):Int):Rat) (by
 have:(0:Int)<(U:Int):=by omega
 exact Rat.intCast_pos.2 this) t
rw[zsb p a n c U h t s,Rat.mul_comm]
exact Rat.mul_div_cancel (by grind))
theorem qdi (p F:Nat→Rat) (n c z:Nat) (U r:Rat) (_hU:0<U) (hz:n≤z) (hc:c<z) (hp:∀ k,n≤k→p k=0) (hF:∀ j,j<z→F j=p j*U-(if j=c then U else 0)) :
  sgR (fun j=>F j*zw r j) z=U*(sgR (fun j=>p j*zw r j) n-zw r c):=by(
rw[mi _ (fun j=>U*(p j*zw r j)-(if j=c then U*zw r j else 0)) z (fun j hj=>by
 rw[hF j hj]
 by_cases e:j=c
 ·rw[if_pos e,if_pos e];grind
 ·rw[if_neg e,if_neg e];grind),zqy,zfw,zqz c (fun j=>U*zw r j),if_pos hc]
have h2:=zto (fun j=>p j*zw r j) n (z-n) (fun k hk=>by rw[hp k hk];grind)
rw[show n+(z-n)=z from by omega] at h2
rw[h2]
grind)
theorem zyh (p F:Nat→Rat) (n c z:Nat) (U r o u:Rat) (hU:0<U) (hu:0<u) (ho:o=r*u) (hz:n≤z) (hc:c<z) (hp:∀ k,n≤k→p k=0) (hF:∀ j,j<z→F j=p j*U-(if j=c then U else 0)) :
  (l5 F o u (dnL z z)).1≤0↔sgR (fun j=>p j*zw r j) n≤zw r c:=by(
rw[qim F o u r z (by omega) ho,qdi p F n c z U r hU hz hc hp hF]
have hq:=zfc u hu (z-1)
generalize zw u (z-1)=q at *
generalize sgR (fun j=>p j*zw r j) n=A at *
generalize zw r c=C at *
have hqU:0<q*U:=Rat.mul_pos hq hU
constructor
·intro h
 refine Rat.not_lt.1 (fun hlt=>?_)
 have:=Rat.mul_pos hqU (show 0<A-C by grind)
 grind
·intro h
 have:=Rat.mul_nonneg (show 0≤q*U by grind) (show 0≤C-A by grind)
 grind)
set_option linter.unusedVariables false
def gnR (p:Nat→Rat) (n c top:Nat):Nat→Nat→Rat
 | 0,_=>0
 | t+1,s=>if top<s+c then 0 else sgR (fun x=>if s+c<x then p x else p x*gnR p n c top t (s+c-x)) n
def gpR (p:Nat→Rat) (n c top t s k:Nat):Rat:=sgR (fun x=>if s+c<x then p x else p x*gnR p n c top t (s+c-x)) k
theorem zgf (p:Nat→Rat) (n c top t s:Nat):gnR p n c top (t+1) s=if top<s+c then 0 else gpR p n c top t s n:=by rw[gnR];rfl
theorem qip (p:Nat→Rat) (n c top:Nat) (h1:sgR p n=1):∀ t s,s+c*t≤top→gnR p n c top t s=1-phi p n c t s
 | 0,s,_=>by
  show (0:Rat)=1-1
  grind
 | t+1,s,h=>by
  rw[Nat.mul_succ] at h
  rw[zgf,if_neg (by omega),zur,← h1]
  unfold gpR
  rw[← zqy]
  refine mi _ _ _ (fun x _=>?_)
  show (if s+c<x then p x else p x*gnR p n c top t (s+c-x))=p x-(if x<s+c+1 then p x*phi p n c t (s+c-x) else 0)
  by_cases hx:s+c<x
  ·rw[if_pos hx,if_neg (by omega)];grind
  ·rw[if_neg hx,if_pos (by omega),qip p n c top h1 t (s+c-x) (by omega)];grind
theorem zvt (p:Nat→Rat) (n c top:Nat) (hp:∀ k,0≤p k) (h1:sgR p n=1) (t s:Nat) (ih:∀ s,0≤gnR p n c top t s∧gnR p n c top t s≤1) (k:Nat) (hk:k≤n):0≤gpR p n c top t s k∧gpR p n c top t s k≤1:=by(
have h0:∀ x,0≤(if s+c<x then p x else p x*gnR p n c top t (s+c-x)):=fun x=>by
 split
 ·exact hp x
 ·exact Rat.mul_nonneg (hp x) (ih _).1
refine⟨zml _ _ (fun x _=>h0 x),?_⟩
have h2:gpR p n c top t s k≤sgR p k:=qfg _ _ k (fun x _=>by
 show (if s+c<x then p x else p x*gnR p n c top t (s+c-x))≤p x
 split
 ·exact Rat.le_refl
 ·have:=Rat.mul_le_mul_of_nonneg_left (ih (s+c-x)).2 (hp x)
  rw[Rat.mul_one] at this
  exact this)
have h3:sgR p k≤sgR p n:=by
 have:=ztp p hp k (n-k)
 rw[show k+(n-k)=n by omega] at this
 exact this
rw[h1] at h3
exact Rat.le_trans h2 h3)
theorem zvu (p:Nat→Rat) (n c top:Nat) (hp:∀ k,0≤p k) (h1:sgR p n=1):∀ t s,0≤gnR p n c top t s∧gnR p n c top t s≤1
 | 0,_=>by
  show (0:Rat)≤0∧(0:Rat)≤1
  decide
 | t+1,s=>by
  rw[zgf]
  split
  ·decide
  ·exact zvt p n c top hp h1 t s (zvu p n c top hp h1 t) n (Nat.le_refl _)
theorem qah (f:Nat→Rat):∀ n,(∀ x,x<n→∃ z:Int,f x=((z:Int):Rat))→∃ z:Int,sgR f n=((z:Int):Rat)
 | 0,_=>⟨0,rfl⟩
 | n+1,h=>by
  obtain⟨a,ha⟩:=qah f n (fun x hx=>h x (by omega))
  obtain⟨b,hb⟩:=h n (by omega)
  exact⟨a+b,by show sgR f n+f n=_;rw[ha,hb,Rat.intCast_add]⟩
theorem qio (p:Nat→Rat) (n c top U:Nat) (hU:∀ x,x<n→∃ z:Int,p x*(((U:Nat):Int):Rat)=((z:Int):Rat)) (t s:Nat) (ih:∀ s,∃ z:Int,gnR p n c top t s*(((U^t:Nat):Int):Rat)=((z:Int):Rat)) (k:Nat) (hk:k≤n):∃ z:Int,gpR p n c top t s k*(((U^(t+1):Nat):Int):Rat)=((z:Int):Rat):=by(
unfold gpR
have e:∀ (f:Nat→Rat) (q:Rat),sgR f k*q=sgR (fun x=>f x*q) k:=fun f q=>(qbl f q k).symm
rw[e]
refine qah _ k (fun x hx=>?_)
obtain⟨a,ha⟩:=hU x (by omega)
have eU:(((U^(t+1):Nat):Int):Rat)=(((U^t:Nat):Int):Rat)*(((U:Nat):Int):Rat):=by rw[Nat.pow_succ,Int.natCast_mul,Rat.intCast_mul]
show ∃ z:Int,(if s+c<x then p x else p x*gnR p n c top t (s+c-x))*(((U^(t+1):Nat):Int):Rat)=_
rw[eU]
split
·refine⟨a*((U^t:Nat):Int),?_⟩
 rw[Rat.intCast_mul,← ha]
 grind
·obtain⟨b,hb⟩:=ih (s+c-x)
 refine⟨a*b,?_⟩
 rw[Rat.intCast_mul,← ha,← hb]
 grind)
theorem qiq (p:Nat→Rat) (n c top U:Nat) (hU:∀ x,x<n→∃ z:Int,p x*(((U:Nat):Int):Rat)=((z:Int):Rat)):∀ t s,∃ z:Int,gnR p n c top t s*(((U^t:Nat):Int):Rat)=((z:Int):Rat)
 | 0,_=>⟨0,by show (0:Rat)*_=_;rw[Rat.zero_mul];rfl⟩
 | t+1,s=>by
  rw[zgf]
  split
  ·exact⟨0,by rw[Rat.zero_mul];rfl⟩
  ·exact qio p n c top U hU t s (qiq p n c top U hU t) n (Nat.le_refl _)
theorem qdp (q:Rat) (K m:Nat) (hK:0<K) (h0:0≤q) (h1:q≤1) (z:Int) (hz:q*(((K:Nat):Int):Rat)=((z:Int):Rat)) (hl:(wd 4294967296 K).length≤m):ja q m:=by(
have hK0:(0:Rat)≤(((K:Nat):Int):Rat):=by
 have:((0:Int):Rat)≤(((K:Nat):Int):Rat):=Rat.intCast_le_intCast.2 (by omega)
 exact this
have z0:0≤z:=by
 have:((0:Int):Rat)≤((z:Int):Rat):=by rw[← hz];exact Rat.mul_nonneg h0 hK0
 exact Rat.intCast_le_intCast.1 this
have z1:z≤(K:Int):=by
 have:((z:Int):Rat)≤(((K:Nat):Int):Rat):=by
  rw[← hz]
  have:=Rat.mul_le_mul_of_nonneg_right h1 hK0
  rw[Rat.one_mul] at this
  exact this
 exact Rat.intCast_le_intCast.1 this
refine zsh q z (K:Int) m (by omega) ?_ ?_ (by rw[Int.natAbs_natCast];exact hl)
·(
have e:=zzv q
have:((q.num*(K:Int):Int):Rat)=((z*(q.den:Int):Int):Rat):=by
 rw[Rat.intCast_mul,Rat.intCast_mul,← hz,← e]
 grind
exact Rat.intCast_inj.1 this)
·exact aj (by omega) _ m (Nat.lt_of_le_of_lt (show z.natAbs≤K by omega) (ak (by omega) K m hl)))
theorem zgg (n m:Int) (h1:0≤n) (h2:n≤m) (h3:m≤1000) (w:World):Calls prog 73 #[.int .i64 n,.int .i64 m] w fun e w'=>e=.returned (.bool true)∧But [] w w':=by(
go_enter func73,ntmps73
go_wp2
go_ret
exact⟨rfl,But.refl _ _⟩)
theorem zgm (va:Value) (fs:List Rat) (c:Nat) (w:World) (ha:aq w va fs) (hn:fs.length≤41) (lf:∀ f ∈ fs,Len f c) (hc:c≤100) :
  Calls prog 74 #[va,.bool true] w fun e w'=>e=.returned (zju (ol fs))∧But [] w w':=by(
have CA:=af (zio va fs c w ha (by omega) lf hc)
obtain⟨q,cap,rfl,-,-⟩:=id ha
obtain⟨ca,hca⟩:∃ ca,ca=ol fs:=⟨_,rfl⟩
rw[← hca] at CA ⊢
clear ha hca
generalize fs.length=n at *
go_enter func74,ntmps74
go_wp2_with fail
refine (ae CA).mono ?_
rintro e w1 ⟨rfl,hb1⟩
have B1:=af hb1
clear hb1 CA
by_cases h0:ca=0
·(
subst h0
rw[show zju 0=.nilIface from rfl]
go_wp2
go_ret
exact⟨rfl,ae B1⟩)
·(
obtain⟨ev,hev⟩:∃ ev,ev=zju ca:=⟨_,rfl⟩
have hev2:ev=.iface 33 (.int .i64 ca):=by rw[hev];unfold zju;rw[if_neg h0]
rw[← hev,hev2]
have HEV:=af (hev2.symm.trans hev)
clear hev hev2
go_wp2
go_ret
exact⟨congrArg _ (ae HEV),ae B1⟩))
structure zgv (w:World) (go ga n m:Nat) (F:Nat→Rat):Prop where
 all:oh w ga (n*m) F
 rows:∀ i,i<n→w.cell? ⟨go,i,none⟩=some (.slice (some ⟨ga,i*m*4,none⟩) m m)
theorem ztz (n m:Nat) (hn:n≤300) (hm:m≤300) (hm0:0<m) (w:World) :
  Calls prog 101 #[.int .i64 (n:Int),.int .i64 (m:Int)] w fun e w'=>∃ go ga,e=.returned (.slice (some ⟨go,0,none⟩) n n)∧zgv w' go ga n m (fun _=>0)∧w.heap.size≤ga∧ga<go∧go<w'.heap.size∧But [] w w':=by(
obtain⟨nm,hnm⟩:∃ nm,nm=n*m:=⟨_,rfl⟩
have hnml:nm≤90000:=by rw[hnm];exact Nat.mul_le_mul hn hm
have hnmI:(n:Int)*(m:Int)=(nm:Int):=by rw[hnm,Int.natCast_mul]
have hmk:=fun wx=>zje wx nm (by omega)
have hmr:=fun wx=>qbp wx n (by omega)
have HNM:=af hnm
obtain⟨W1,hW1⟩:∃ W1,W1=w.alloc (.cells (madeCells #[.bool false,.int .u64 0,.int .u64 0,.pointer none] (nm*4)) 27):=⟨_,rfl⟩
obtain⟨W2,hW2⟩:∃ W2,W2=W1.alloc (.cells (madeCells #[.slice none 0 0] n) 46):=⟨_,rfl⟩
have z1:W1.heap.size=w.heap.size+1:=by rw[hW1];simp
have b2:But [] W1 W2:=by rw[hW2];exact (But.refl _ _).alloc _
have b1:But [] w W2:=But.trans' (by rw[hW1];exact (But.refl _ _).alloc _) b2
have rA:(∀ j,j<nm→P4o W2 w.heap.size (j*4) false 0 0 none)∧∀ o,W2.frozen? ⟨w.heap.size,o,none⟩=false:=by
 have h:=zbi.made w nm (fun _=>0)
 rw[← hW1] at h
 exact⟨fun j hj=>(h.blank j (Nat.zero_le _) hj).but b2 (by simp),fun o=>(b2.frozen (p:=⟨w.heap.size,o,none⟩) (by show w.heap.size<_;omega) (by simp)).trans (h.loose o)⟩
have cO:∀ i,i<n→W2.cell? ⟨w.heap.size+1,i,none⟩=some (.slice none 0 0):=fun i hi=>by
 rw[← z1,hW2,World.cell?_alloc_new];exact qia n i hi
have fO:∀ j,W2.frozen? ⟨w.heap.size+1,j,none⟩=false:=fun j=>by rw[← z1,hW2];simp
have s2:w.heap.size+1<W2.heap.size:=by rw[hW2];simp;omega
have RA:=af rA
have CO:=af cO
have FO:=af fO
have B1:=af b1
clear rA cO fO b1 b2 hnm
go_enter func101,ntmps101
go_wp2
rw[← hW1,← hW2]
clear hW1 hW2 z1 hmk hmr
have oG:w.heap.size≤w.heap.size:=Nat.le_refl _
generalize hgo:w.heap.size+1=go at *
generalize hga:w.heap.size=ga at *
have OG:Hid (w.heap.size≤ga∧ga<go):=⟨by omega,by omega⟩
go_loopw [18] (fun iv wr=>∃ k:Nat,k≤n∧iv=.int .i64 (k:Int)∧Hid (((∀ j,j<nm→P4o wr ga (j*4) false 0 0 none)∧∀ o,wr.frozen? ⟨ga,o,none⟩=false)∧(∀ i,i<k→wr.cell? ⟨go,i,none⟩=some (.slice (some ⟨ga,i*m*4,none⟩) m m))∧(∀ i,k≤i→i<n→wr.cell? ⟨go,i,none⟩=some (.slice none 0 0))∧(∀ j,wr.frozen? ⟨go,j,none⟩=false)∧go<wr.heap.size∧But [] w wr)) (fun iv _=>n-(intOf iv).toNat)
case atStart=>exact⟨0,Nat.zero_le _,rfl,ae RA,fun i hi=>absurd hi (by omega),fun i _ hi=>ae CO i hi,ae FO,s2,ae B1⟩
case round =>(
obtain⟨k,hk,rfl,HI⟩:=hrel
rename World=>wr
clear RA CO FO B1 s2
by_cases hlt:k<n
·(
obtain⟨fr,hfr⟩:∃ fr,fr=k*m:=⟨_,rfl⟩
have hf1:(k:Int)*(m:Int)=(fr:Int):=by rw[hfr,Int.natCast_mul]
have hf2:((k:Int)+1)*(m:Int)=(fr:Int)+(m:Int):=by rw[Int.add_mul,hf1];omega
have hf3:fr+m≤nm:=by
 have:=Nat.mul_le_mul_right m (show k+1≤n by omega)
 rw[Nat.succ_mul] at this
 have:=ae HNM
 omega
obtain⟨hrow,hdone,hyet,hfz,hgl,hbw⟩:=ae HI
have c0:=hyet k (Nat.le_refl _) hlt
have HFR:=af hfr
clear hrow hdone hyet hbw hfr
have hfz0:=hfz k
go_wp2
have hb:But [go] wr (wr.setCell ⟨go,k,none⟩ (.slice (some ⟨ga,fr*4,none⟩) m m)):=(But.refl [go] wr).setCell (.inl (by simp)) _
obtain⟨⟨hP,hPf⟩,hdone,hyet,-,-,hbw⟩:=ae HI
have og:=ae OG
have hgl2:ga<wr.heap.size:=by omega
refine⟨⟨k+1,by omega,by go_num,⟨fun j hj=>(hP j hj).but hb (by simp;omega),fun o=>(hb.frozen (p:=⟨ga,o,none⟩) hgl2 (by simp;omega)).trans (hPf o)⟩,fun i hi=>?_,fun i h1 h2=>?_,fun j=>by rw[World.frozen?_setCell];exact hfz j,Nat.lt_of_lt_of_le hgl hb.size,hbw.trans hb (fun x hx=>by simp at hx;subst hx;exact .inr (by omega))⟩,by simp[intOf];omega⟩
·(
by_cases e:i=k
·subst e
 rw[World.cell?_setCell_same _ _ _ c0,ae HFR]
·rw[World.cell?_setCell_other _ _ _ _ (by simp;first | done | omega)]
 exact hdone i (by omega))
·rw[World.cell?_setCell_other _ _ _ _ (by simp;first | done | omega)]
 exact hyet i (by omega) h2)
·obtain rfl:k=n:=by omega
 go_wp2
 go_ret
 refine⟨go,ga,rfl,⟨by rw[← ae HNM];exact⟨fun j hj=>⟨false,0,0,none,(ae HI).1.1 j hj,dz _⟩,(ae HI).1.2⟩,(ae HI).2.1⟩,(ae OG).1,(ae OG).2,(ae HI).2.2.2.2.1,(ae HI).2.2.2.2.2⟩))
theorem zgv.row {w:World} {go ga n m:Nat} {F:Nat→Rat} (h:zgv w go ga n m F) (i:Nat) (hi:i<n):aq w (.slice (some ⟨ga,i*m*4,none⟩) m m) ((List.range m).map fun k=>F (i*m+k)):=by(
refine⟨some ⟨ga,i*m*4,none⟩,m,by simp,by simp,fun k f hf=>⟨ga,i*m*4,rfl,?_⟩⟩
have hk:k<m:=by have:=(List.getElem?_eq_some_iff.1 hf).1;simpa using this
rw[List.getElem?_map,List.getElem?_range hk,Option.map_some] at hf
obtain rfl:=Option.some.inj hf
have hkm:i*m+m≤n*m:=by
 have:=Nat.mul_le_mul_right m (show i+1≤n by omega)
 rw[Nat.succ_mul] at this
 exact this
have h1:=h.all.told (i*m+k) (by omega)
rw[Nat.add_mul] at h1
exact h1)
theorem zgv.but {w w':World} {go ga n m:Nat} {F:Nat→Rat} (h:zgv w go ga n m F) (hb:But [] w w') (hg:ga<w.heap.size):zgv w' go ga n m F:=⟨h.all.but hb hg,fun i hi=>hb.ag (h.rows i hi) (by simp)⟩
def lsR (a:Nat→Nat) (n c t s:Nat):Rat:=(((lsN a n c t s:Nat):Int):Rat)
theorem zzr (a:Nat→Nat) (k:Nat):∀ n,k<n→a k≤sgN a n
 | 0,h=>absurd h (by omega)
 | n+1,h=>by
  by_cases e:k=n
  ·subst e
   exact Nat.le_add_left _ _
  ·exact Nat.le_trans (zzr a k n (by omega)) (Nat.le_add_right _ _)
theorem qjs (a:Nat→Nat) (n c U t s mn:Nat) (cs bs:List Rat) (hcs:∀ k,k<n→cs[k]?.getD 0=(((a k:Nat):Int):Rat)) (hbs:∀ k,k≤s+c→bs[k]?.getD 0=lsR a n c t k) (hsum:sgN a n=U) (hmn:mn=min n (s+c+1)) (hl:(wd 18446744073709551616 U).length≤20) (ht:t<20) :
  ahR cs bs (s+c) mn=lsR a n c (t+1) s∧∀ k,k≤mn→Len (ahR cs bs (s+c) k) 1000:=by(
have e:∀ k,k≤mn→ahR cs bs (s+c) k=(((sgN (fun x=>a x*lsN a n c t (s+c-x)) k:Nat):Int):Rat):=fun k hk=>by
 unfold ahR
 refine (zlo _ _ k (fun x hx=>?_)).symm
 rw[hcs x (by omega),hbs (s+c-x) (by omega)]
 unfold lsR
 rw[Int.natCast_mul,Rat.intCast_mul]
refine⟨?_,fun k hk=>?_⟩
·rw[e mn (Nat.le_refl _),hmn]
 rfl
·(
rw[e k hk]
have h1:=zvg a n c U t s hsum (fun s=>zni a n c U hsum t s) k (by omega)
have h2:=o7 U (t+1) 20 hl
have h3:20*(t+1)≤20*20:=Nat.mul_le_mul_left _ (by omega)
exact jq _ _ h1 (Nat.le_trans h2 (by omega)) (by omega)))
theorem zvk (inc st ys n cb co cc U:Nat) (s1:Bool) (x1 y1:Int) (p1:Option Addr) (a:Nat→Nat) (p:Nat→Rat) (cs:List Rat) (w:World) (hU:am w (.agg #[.bool s1,.int .u64 x1,.int .u64 y1,.pointer p1]) (((U:Nat):Int):Rat)) (hc:aq w (.slice (some ⟨cb,co,none⟩) n cc) cs)
  (hcs:∀ k,k<n→cs[k]?.getD 0=(((a k:Nat):Int):Rat)) (hn0:0<n) (hn1:n≤41) (hcc:n≤cc) (hcc2:cc<1000000) (hst:st≤60) (hinc:inc≤20) (hys:ys≤6)
  (hpa:∀ x,(((a x:Nat):Int):Rat)=p x*(((U:Nat):Int):Rat)) (h1:sgR p n=1) (hsum:sgN a n=U) (hl:(wd 18446744073709551616 U).length≤20) :
  Calls prog 76 #[.agg #[.int .i64 (inc:Int),.bool s1,.int .u64 x1,.int .u64 y1,.pointer p1,.slice (some ⟨cb,co,none⟩) n cc],.int .i64 (st:Int),.int .i64 (ys:Int)] w fun e w'=>∃ v,e=.returned v∧am w' v (lsR a n inc ys st)∧But [] w w':=by(
obtain⟨yi,hyi⟩:∃ yi,yi=ys*inc:=⟨_,rfl⟩
have hyi1:yi≤120:=by rw[hyi];exact Nat.mul_le_mul hys hinc
have hyI:(ys:Int)*(inc:Int)=(yi:Int):=by rw[hyi,Int.natCast_mul]
obtain⟨m,hm⟩:∃ m,m=st+yi+1:=⟨_,rfl⟩
have hmI:(st:Int)+(yi:Int)+1=(m:Int):=by omega
obtain⟨N,hN⟩:∃ N,N=ys+1:=⟨_,rfl⟩
have hNI:(ys:Int)+1=(N:Int):=by omega
have hm0:0<m:=by omega
have hm1:m≤181:=by omega
have hN1:N≤7:=by omega
have hNm:0<N*m:=Nat.mul_pos (by omega) hm0
have RN:=af (ztz N m (by omega) (by omega) hm0)
have WA:=af (fun W t (ht:t≤20) (h:But [] w W)=>zpi (inc:Int) s1 x1 y1 p1 (some ⟨cb,co,none⟩) n cc U t W (hU.but h) ht hl)
have LCS:Hid (∀ k,k<n→Len (cs[k]?.getD 0) 1000):=fun k hk=>by
 rw[hcs k hk]
 exact jq _ _ (by rw[← hsum];exact zzr a k n hk) (Nat.le_trans hl (by omega)) (by omega)
have LBS:Hid (∀ t s,t≤20→Len (lsR a n inc t s) 1000):=fun t s ht=>by
 have h3:20*t≤20*20:=Nat.mul_le_mul_left _ ht
 exact jq _ _ (zni a n inc U hsum t s) (Nat.le_trans (o7 U t 20 hl) (by omega)) (by omega)
have SURE:Hid (∀ t s:Nat,(t:Int)*((n:Int)-1-(inc:Int))≤(s:Int)→lsR a n inc t s=zw (((U:Nat):Int):Rat) t):=fun t s h=>by
 unfold lsR
 rw[qib p a n inc U hpa h1 t s h,zfd]
have AIS:Hid (∀ t s mn bs,(∀ k,k≤s+inc→(bs:List Rat)[k]?.getD 0=lsR a n inc t k)→mn=min n (s+inc+1)→t<20→ahR cs bs (s+inc) mn=lsR a n inc (t+1) s∧∀ k,k≤mn→Len (ahR cs bs (s+inc) k) 1000):=fun t s mn bs hbs hmn ht=>qjs a n inc U t s mn cs bs hcs hbs hsum hmn hl ht
have HC:=af hc
have HYI:=af hyi
have hN2:N≤ys+1:=by omega
have hN3:ys+1≤N:=by omega
have hm2:m≤st+yi+1:=by omega
have hm3:st+yi+1≤m:=by omega
clear hN hm
obtain⟨A,hA⟩:∃ A,A=w.alloc (.cells #[.int .i64 (inc:Int),.bool s1,.int .u64 x1,.int .u64 y1,.pointer p1,.slice (some ⟨cb,co,none⟩) n cc] 122):=⟨_,rfl⟩
obtain⟨W,hW⟩:∃ W,W=A.alloc (.cells #[.bool false,.int .u64 0,.int .u64 0,.pointer none] 27):=⟨_,rfl⟩
have sA:A.heap.size=w.heap.size+1:=by rw[hA];simp
have bA:But [] w A:=by rw[hA];exact (But.refl _ _).alloc _
have bW:But [] A W:=by rw[hW];exact (But.refl _ _).alloc _
have x3:zbd W w.heap.size (inc:Int) s1 x1 y1 p1 (.slice (some ⟨cb,co,none⟩) n cc):=by
 have h:zbd A w.heap.size (inc:Int) s1 x1 y1 p1 (.slice (some ⟨cb,co,none⟩) n cc):=by rw[hA];exact zbd.new _ _ _ _ _ _ _ _
 exact h.but bW (by simp)
have x6:az W (w.heap.size+1) 0:=by
 rw[hW,← sA]
 exact az.new A false 0 0 none 0 27 (dz _)
have X3:=af x3
have X6:=af x6
have BW:=af (bA.trans' bW)
clear hU hc hcs hpa h1 hsum hl hyi x3 x6 bA bW
go_enter func76,ntmps76
go_wp2_with fail
rw[← hA,← hW]
refine (ae RN _).mono ?_
rintro e w1 ⟨go,ga,rfl,hmat,hga,hgo,hgos,hb1⟩
have B1:=af ((ae BW).trans' hb1)
have X31:=af ((ae X3).but hb1 (by simp))
have X61:=af ((ae X6).but hb1)
have MT:=af hmat
have g3l:=(ae X3).lt
have g6l:=(ae X6).lt
have nGA:w.heap.size+1<ga:=by omega
have sz1:ga<w1.heap.size∧go<w1.heap.size:=by omega
clear hb1 hmat RN BW X3 X6 hA hW sA hga
generalize hg6:w.heap.size+1=g6 at *
generalize hg3:w.heap.size=g3 at *
go_wp2
clear hyI hmI
go_loopw [24] (fun iv wr=>∃ k:Nat,k≤N∧iv=.int .i64 (k:Int)∧Hid ((∃ F,zgv wr go ga N m F∧∀ l,l<k→∀ s,s<st+(ys-l)*inc+1→F (l*m+s)=lsR a n inc l s)∧zbd wr g3 (inc:Int) s1 x1 y1 p1 (.slice (some ⟨cb,co,none⟩) n cc)∧az wr g6 0∧(ga<wr.heap.size∧go<wr.heap.size)∧But [] w wr)) (fun iv _=>N-(intOf iv).toNat)
case atStart=>exact⟨0,Nat.zero_le _,rfl,⟨_,ae MT,fun l hl=>absurd hl (by omega)⟩,ae X31,ae X61,sz1,ae B1⟩
case round =>(
obtain⟨k,hk,rfl,HI⟩:=hrel
rename World=>wr
clear MT X31 X61 sz1 B1
by_cases hlt:k<N
·(
obtain⟨lm,hlm⟩:∃ lm,lm=(ys-k)*inc:=⟨_,rfl⟩
have hlmI:((ys:Int)-(k:Int))*(inc:Int)=(lm:Int):=by
 rw[hlm,Int.natCast_mul,Int.natCast_sub (by omega)]
have hlm1:lm≤yi:=by rw[hlm,ae HYI];exact Nat.mul_le_mul_right _ (by omega)
obtain⟨lim,hlim⟩:∃ lim,lim=st+lm+1:=⟨_,rfl⟩
have hlimI:(st:Int)+(lm:Int)+1=(lim:Int):=by omega
have hlim2:lim≤st+lm+1:=by omega
have hlim3:st+lm+1≤lim:=by omega
clear hlim
obtain⟨en,hen⟩:∃ en:Int,en=(k:Int)*((n:Int)-1-(inc:Int)):=⟨_,rfl⟩
have hen2:(k:Int)*((n:Int)-1-(inc:Int))=en:=hen.symm
have hen3:-200≤en∧en≤400:=by
 have:k=0∨k=1∨k=2∨k=3∨k=4∨k=5∨k=6:=by omega
 rw[hen]
 rcases this with rfl|rfl|rfl|rfl|rfl|rfl|rfl <;> omega
obtain⟨hen4,hen5⟩:=hen3
have HLM:=af hlm
have HEN:=af hen
have hen0:k=0→en≤0:=fun h=>by rw[hen,h];simp
have HEN0:=af hen0
obtain⟨y0,y1',y2,y3,y4,y5,-⟩:=(ae HI).2.1
have WK:=af (ae WA wr k (by omega) (ae HI).2.2.2.2)
clear hlm hen hen0
go_wp2_with fail
refine (ae WK).mono ?_
rintro e w2 ⟨v2,rfl,hf2,hb2⟩
obtain⟨x2,y2',p2,rfl,-⟩:=id hf2.agg
generalize decide ((zw (((U:Nat):Int):Rat) k).num<0)=s2 at *
obtain⟨V,hV⟩:∃ V,V=w2.alloc (.cells #[.bool s2,.int .u64 x2,.int .u64 y2',.pointer p2] 27):=⟨_,rfl⟩
have bV:But [] w2 V:=by rw[hV];exact (But.refl _ _).alloc _
have hbV:=hb2.trans' bV
obtain⟨⟨F0,hm0F,ht0⟩,hyb,hb6,⟨hsa,hso⟩,hbw⟩:=ae HI
have X9:Hid (az V w2.heap.size (zw (((U:Nat):Int):Rat) k)):=by rw[hV];exact az.new w2 s2 x2 y2' p2 _ 27 hf2
have VM:=af (hm0F.but hbV hsa)
have VT:=af ht0
have VY:=af (hyb.but hbV (by simp))
have V6:=af (hb6.but hbV)
have VB:=af (hbw.trans' hbV)
have VS:ga<V.heap.size∧go<V.heap.size:=by have:=hbV.size;omega
have g9n:ga<w2.heap.size∧g6<w2.heap.size∧g3<w2.heap.size:=by
 have:=hb2.size
 have:=hb6.lt
 have:=hyb.lt
 omega
have y0':=hb2.ag y0 (by simp)
have y5':=hb2.ag y5 (by simp)
clear hm0F ht0 hyb hb6 hbw hf2 hb2 hbV bV HI WK y0 y1' y2 y3 y4 y5 hsa hso
obtain⟨g9n1,g9n2,g9n3⟩:=g9n
go_wp2
rw[← hV]
clear hV y0' y5' hlmI hlimI hen2
generalize w2.heap.size=g9 at *
go_loopw [48] (fun iv wr=>∃ j:Nat,j≤lim∧iv=.int .i64 (j:Int)∧Hid ((∃ F,zgv wr go ga N m F∧(∀ l,l<k→∀ s,s<st+(ys-l)*inc+1→F (l*m+s)=lsR a n inc l s)∧∀ s,s<j→F (k*m+s)=lsR a n inc k s)∧zbd wr g3 (inc:Int) s1 x1 y1 p1 (.slice (some ⟨cb,co,none⟩) n cc)∧az wr g6 0∧az wr g9 (zw (((U:Nat):Int):Rat) k)∧(ga<wr.heap.size∧go<wr.heap.size)∧But [] w wr)) (fun iv _=>lim-(intOf iv).toNat)
case atStart=>exact⟨0,Nat.zero_le _,rfl,⟨_,ae VM,ae VT,fun s hs=>absurd hs (by omega)⟩,ae VY,ae V6,ae X9,VS,ae VB⟩
case round =>(
obtain⟨j,hj,rfl,HJ⟩:=hrel
rename World=>wj
clear VM VT VY V6 X9 VS VB
by_cases hjl:j<lim
·(
have hjm:j<m:=by omega
have hkm:k*m+m≤N*m:=by
 have:=Nat.mul_le_mul_right m (show k+1≤N by omega)
 rw[Nat.succ_mul] at this
 exact this
have hkj:k*m+j<N*m:=by omega
obtain⟨⟨F,hM,hT1,hT2⟩,hY,h6,h9,⟨hsa,hso⟩,hbw⟩:=ae HJ
have HM:=af hM
have HT1:=af hT1
have HT2:=af hT2
have HY:=af hY
have H6:=af h6
have H9:=af h9
have HBW:=af hbw
obtain⟨sb,xb,yb,pb,cb',-⟩:=hM.all.told (k*m+j) hkj
have CB:=af cb'
have e4:(k*m+j)*4=k*m*4+j*4:=by rw[Nat.add_mul]
have FIN:Hid (∀ (f:Rat) (w5:World) (s':Bool) (x' y':Int) (p':Option Addr),f=lsR a n inc k j→But [] wj w5→am w5 (.agg #[.bool s',.int .u64 x',.int .u64 y',.pointer p']) f→((∃ F,zgv (w5.setCells ga ((k*m+j)*4) [.bool s',.int .u64 x',.int .u64 y',.pointer p']) go ga N m F∧(∀ l,l<k→∀ s,s<st+(ys-l)*inc+1→F (l*m+s)=lsR a n inc l s)∧∀ s,s<j+1→F (k*m+s)=lsR a n inc k s)∧zbd (w5.setCells ga ((k*m+j)*4) [.bool s',.int .u64 x',.int .u64 y',.pointer p']) g3 (inc:Int) s1 x1 y1 p1 (.slice (some ⟨cb,co,none⟩) n cc)∧az (w5.setCells ga ((k*m+j)*4) [.bool s',.int .u64 x',.int .u64 y',.pointer p']) g6 0∧az (w5.setCells ga ((k*m+j)*4) [.bool s',.int .u64 x',.int .u64 y',.pointer p']) g9 (zw (((U:Nat):Int):Rat) k)∧(ga<(w5.setCells ga ((k*m+j)*4) [.bool s',.int .u64 x',.int .u64 y',.pointer p']).heap.size∧go<(w5.setCells ga ((k*m+j)*4) [.bool s',.int .u64 x',.int .u64 y',.pointer p']).heap.size)∧But [] w (w5.setCells ga ((k*m+j)*4) [.bool s',.int .u64 x',.int .u64 y',.pointer p']))):=fun f w5 s' x' y' p' hf hb5 hfa=>by
 have hS:=br w5 ga [.bool s',.int .u64 x',.int .u64 y',.pointer p'] ((k*m+j)*4)
 have hM5:=hM.but hb5 hsa
 have hbo:=hM5.all.bool hNm
 refine⟨⟨zxc F (k*m+j) f,⟨hM5.all.set hkj s' x' y' p' f hfa,fun i hi=>hS.ag (hM5.rows i hi) (by simp;omega)⟩,fun l hl s hs=>?_,fun s hs=>?_⟩,(hY.but hb5 (by simp)).but hS (by simp;omega),(h6.but hb5).beside hS (by simp;omega) (fun g hg=>by simp at hg;subst hg;exact hbo),(h9.but hb5).beside hS (by simp;omega) (fun g hg=>by simp at hg;subst hg;exact hbo),?_,(hbw.trans' hb5).trans hS (fun x hx=>by simp at hx;subst hx;exact .inr (by omega))⟩
 ·have hlm2:l*m+m≤k*m:=by
   have:=Nat.mul_le_mul_right m (show l+1≤k by omega)
   rw[Nat.succ_mul] at this
   exact this
  have hsm:s<m:=by
   have:(ys-l)*inc≤yi:=by rw[ae HYI];exact Nat.mul_le_mul_right _ (by omega)
   omega
  unfold zxc
  rw[if_neg (by omega)]
  exact hT1 l hl s hs
 ·unfold zxc
  by_cases e:s=j
  ·rw[if_pos (by omega),hf,e]
  ·rw[if_neg (by omega)]
   exact hT2 s (by omega)
 ·have:=hb5.size
  have:=hS.size
  omega
obtain⟨⟨t9,a9,b9,q9,c9,hf9⟩,z9⟩:=h9
have hNN:N<1000000:=by omega
have hmm:m<1000000:=by omega
by_cases hge:en≤(j:Int)
·(
have hval:=ae SURE k j (by rw[← ae HEN];exact hge)
clear hM hT1 hT2 hY h6 hbw HJ
go_wp2
refine zjs 11 _ _ wj ga (k*m*4+j*4) go N (k*m*4) m m k j t9 a9 b9 q9 _ g9 (by simp) (by rw[← e4];exact cb') (fun o=>(ae HM).all.loose o) (by simp[Act.eval]) (by simp[Act.eval]) (by simp[Act.eval]) (by simp[Act.eval]) rfl hlt hNN hjm hmm (by rw[Nat.zero_add];exact (ae HM).rows k hlt) c9 hf9 ?_
intro w5 s' x' y' p' hb5 hf5
simp only[bi,List.foldl_cons,List.foldl_nil,Act.put,List.setIfInBounds_toArray,List.set_cons_zero,List.set_cons_succ]
have JJ:=af (ae FIN _ w5 s' x' y' p' hval.symm hb5 hf5)
rw[e4] at JJ
generalize w5.setCells ga (k*m*4+j*4) [.bool s',.int .u64 x',.int .u64 y',.pointer p']=V5 at *
clear hb5 hf5 FIN HM HT1 HT2 HY H6 H9 HBW CB cb' c9 hf9 z9 hval e4
go_wp2
exact⟨⟨j+1,by omega,by go_num,ae JJ⟩,by simp[intOf];omega⟩)
·(
obtain⟨kb,hkb⟩:∃ kb,k=kb+1:=⟨k-1,by
 have:k≠0:=fun h=>by
  have:=ae HEN0 h
  omega
 omega⟩
have hmx:((ys-kb)*inc)=lm+inc:=by
 rw[ae HLM,show ys-kb=(ys-k)+1 from by omega,Nat.succ_mul]
have hji:j+inc<m:=by
 have:(ys-kb)*inc≤yi:=by rw[ae HYI];exact Nat.mul_le_mul_right _ (by omega)
 omega
have hbs:∀ s,s≤j+inc→((List.range m).map fun s=>F (kb*m+s))[s]?.getD 0=lsR a n inc kb s:=fun s hs=>by
 rw[List.getElem?_map,List.getElem?_range (by omega)]
 exact hT1 kb (by omega) s (by omega)
obtain⟨mn,hmn⟩:∃ mn,mn=min n (j+inc+1):=⟨_,rfl⟩
obtain⟨hval,hlen⟩:=ae AIS kb j mn _ hbs hmn (by omega)
have AH:=af (fun W (hb:But [] wj W)=>qep inc j n cb co cc ga (kb*m*4) m m (j+inc) mn s1 x1 y1 p1 cs _ W ((ae HC).but (hbw.trans' hb)) ((hM.but hb hsa).row kb (by omega)) rfl hmn hji (by omega) (by omega) hcc hcc2 (ae LCS) (fun s hs=>by rw[hbs s hs];exact ae LBS kb s (by omega)) hlen)
rw[hval,← hkb] at AH
have HKB:=af hkb
have hkb1:kb<k:=by omega
clear hkb
clear hM hT1 hT2 h6 hbw HJ hbs hlen hmn hval
go_wp2
refine zjr 12 _ _ wj ga (k*m*4+j*4) go N (k*m*4) (kb*m*4) m m k kb j (inc:Int) s1 x1 y1 p1 (some ⟨cb,co,none⟩) n cc _ g3 (by simp) (by rw[← e4];exact cb') (fun o=>(ae HM).all.loose o) (by simp[Act.eval]) (by simp[Act.eval]) (by simp[Act.eval]) (by simp[Act.eval]) rfl (ae HKB) hlt hNN hjm hmm (by rw[Nat.zero_add];exact (ae HM).rows k hlt) (by rw[Nat.zero_add];exact (ae HM).rows kb (by omega)) hY (fun W hb=>ae AH W hb) ?_
intro w5 s' x' y' p' hb5 hf5
simp only[bi,List.foldl_cons,List.foldl_nil,Act.put,List.setIfInBounds_toArray,List.set_cons_zero,List.set_cons_succ]
have JJ:=af (ae FIN _ w5 s' x' y' p' rfl hb5 hf5)
rw[e4] at JJ
generalize w5.setCells ga (k*m*4+j*4) [.bool s',.int .u64 x',.int .u64 y',.pointer p']=V5 at *
clear hb5 hf5 FIN HM HT1 HT2 HY H6 H9 HBW CB cb' c9 hf9 z9 hY e4 AH
go_wp2
exact⟨⟨j+1,by omega,by go_num,ae JJ⟩,by simp[intOf];omega⟩))
·(
obtain rfl:j=lim:=by omega
obtain⟨⟨F,hM,hT1,hT2⟩,hY,h6,h9,hsz,hbw⟩:=ae HJ
have JJ:Hid ((∃ F,zgv wj go ga N m F∧∀ l,l<k+1→∀ s,s<st+(ys-l)*inc+1→F (l*m+s)=lsR a n inc l s)∧zbd wj g3 (inc:Int) s1 x1 y1 p1 (.slice (some ⟨cb,co,none⟩) n cc)∧az wj g6 0∧(ga<wj.heap.size∧go<wj.heap.size)∧But [] w wj):=⟨⟨F,hM,fun l hl s hs=>by
 by_cases e:l=k
 ·subst e
  exact hT2 s (by rw[← ae HLM] at hs;omega)
 ·exact hT1 l (by omega) s hs⟩,hY,h6,hsz,hbw⟩
clear hM hT1 hT2 hY h6 h9 hsz hbw HJ
go_wp2
exact⟨⟨k+1,by omega,by go_num,ae JJ⟩,by simp[intOf];omega⟩)))
·(
obtain rfl:k=N:=by omega
obtain⟨⟨F,hM,hT⟩,hY,⟨⟨t2,a2,b2,q2,⟨c0,c1,c2,c3⟩,-⟩,z2⟩,⟨hsa,hso⟩,hbw⟩:=ae HI
have hys1:ys<k:=by omega
have hys2:ys*m+st<k*m:=by
 have:=Nat.mul_le_mul_right m (show ys+1≤k by omega)
 rw[Nat.succ_mul] at this
 omega
have hrow:=hM.rows ys hys1
have hval:=hT ys hys1 st (by omega)
obtain⟨t6,a6,b6,q6',cc6,hf6⟩:=hM.all.told (ys*m+st) hys2
rw[hval] at hf6
have e4:(ys*m+st)*4=ys*m*4+st*4:=by rw[Nat.add_mul]
rw[e4] at cc6
obtain⟨d0,d1,d2,d3⟩:=cc6
have HF6:=af hf6
have HBW:=af hbw
have P2:Hid (P4 wr g6 t2 a2 b2 q2):=⟨c0,c1,c2,c3⟩
have hsm:st<m:=by omega
clear HI hf6 hbw hM hT hY hval hys2 e4
go_wp2
have hP:=aw wr g6 t6 a6 b6 q6'
obtain⟨m0,m1,m2,m3⟩:=mo wr g6 t6 a6 b6 q6' (ae P2)
have hF:But [] w (jc wr g6 t6 a6 b6 q6'):=(ae HBW).trans hP (fun x hx=>by simp at hx;subst hx;exact .inr (by omega))
have hff:=(ae HF6).over (ae P2).1 hP
change bodyPost _ _ _ _ _ (jc wr g6 t6 a6 b6 q6')
generalize jc wr g6 t6 a6 b6 q6'=F' at *
exact bodyPost_ret (v:=.agg #[.bool t6,.int .u64 a6,.int .u64 b6,.pointer q6']) (by simp[results,results76,go_sem,m0,m1,m2,m3]) rfl ⟨_,rfl,hff,hF⟩)))
theorem znx (x y:Rat) (r:Int) (hr:r=zbc (x.num*(y.den:Int)) (y.num*(x.den:Int))):(r<0↔x<y)∧(0<r↔y<x)∧(r=0↔x=y):=by(
have h1:x<y↔x.num*(y.den:Int)<y.num*(x.den:Int):=Rat.lt_iff x y
have h2:y<x↔y.num*(x.den:Int)<x.num*(y.den:Int):=Rat.lt_iff y x
have h3:x=y↔x.num*(y.den:Int)=y.num*(x.den:Int):=by
 constructor
 ·intro h;rw[h]
 ·intro h
  exact Rat.le_antisymm ((Rat.le_iff _ _).2 (by omega)) ((Rat.le_iff _ _).2 (by omega))
rw[h1,h2,h3,hr]
unfold zbc
split
·omega
·split <;> omega)
def exL (fs:List Rat) (inc:Nat):List Rat:=(List.range (max fs.length (inc+1))).map (exF fs inc (jf 1 fs))
def sfQ (L:List Rat) (o u:Rat):Bool:=decide ((l5 (fun t=>L[t]?.getD 0) o u ((o9 L.length 0).map (·.1))).1≤0)
theorem zsl (fs:List Rat) (inc:Nat):(exL fs inc).length=max fs.length (inc+1):=by unfold exL;simp
theorem zwb (v:Value) (fs:List Rat) (inc:Nat) (w:World) (m:Int) (c:Nat) (hv:aq w v fs) (hl:fs.length≤1000) (hi:inc≤20) (lf:∀ f ∈ fs,Len f c) (hc:c≤100) (htab:Lib.TabIs prog w "internal/strconv.uint64pow10" .u64 Lib.pow10Tab) (hm:w.cell? ⟨4,0,none⟩=some (.int .i64 m)) :
  Calls prog 88 #[.int .i64 (inc:Int),v] w fun e w'=>∃ v',e=.returned v'∧aq w' v' (exL fs inc)∧But [] w w' :=
 (zyn v fs inc w m c hv hl hi lf hc htab hm).mono fun e w' ⟨g,e1,h1,_,_,h4⟩=>⟨_,e1,h1.znr,h4⟩
theorem qbm (v vo vu:Value) (L:List Rat) (o u:Rat) (w:World) (hv:aq w v L) (hn0:0<L.length) (hn1:L.length≤50) (ho:am w vo o) (hu:am w vu u) (lf:∀ f ∈ L,Len f 100) (lo:Len o 100) (lu:Len u 100) :
  Calls prog 87 #[v,vo,vu] w fun e w'=>e=.returned (.bool (sfQ L o u))∧But [] w w':=by(
rcases hv.open with ⟨e,-⟩|⟨-,b,off,cap,rfl,-,-⟩
·rw[e] at hn0;simp at hn0
·exact qfn b off cap L.length L 100 vo vu o u w hv rfl hn0 hn1 ho hu lf (Nat.le_refl _) lo lu)
theorem zri (v vr:Value) (fs:List Rat) (inc:Nat) (r:Rat) (w:World) (m:Int) (c:Nat) (hv:aq w v fs) (hr:am w vr r) (hl:fs.length≤41) (hi:inc≤20) (lf:∀ f ∈ fs,Len f c) (hc:c≤100) (hk:ol fs=0) (h1:1≤r) (lr:Len r c)
  (lo:Len (r*(((jf 1 [r]:Nat):Int):Rat)) 100) (lu:Len (((jf 1 [r]:Nat):Int):Rat) 100) (lx:∀ f ∈ exL fs inc,Len f 100) (htab:Lib.TabIs prog w "internal/strconv.uint64pow10" .u64 Lib.pow10Tab) (hm:w.cell? ⟨4,0,none⟩=some (.int .i64 m)) :
  Calls prog 23 #[.int .i64 (inc:Int),v,vr] w fun e w'=>e=.returned (.tuple #[.bool (sfQ (exL fs inc) (r*(((jf 1 [r]:Nat):Int):Rat)) (((jf 1 [r]:Nat):Int):Rat)),.nilIface])∧But [] w w':=by(
obtain⟨U,hUU⟩:∃ U,U=jf 1 [r]:=⟨_,rfl⟩
have hlen:=zsl fs inc
have CO:=af (fun W v' (h:But [] w W) (hv':zbr W v' [[r]])=>zhe v' [[r]] W m c hv' (by simp) (fun l hl'=>by simp at hl';rw[hl'];simp) (fun l hl' f hf=>by simp at hl';subst hl';simp at hf;subst hf;exact lr) (by simp;omega) (by omega) (TabIs.but htab h) (h.ag hm (by simp)))
have F0:=af (fun W=>zgg (inc:Int) 20 (by omega) (by omega) (by omega) W)
have CK:=af (fun W (h:But [] w W)=>zgm v fs c W (hv.but h) hl lf hc)
rw[hk] at CK
have EX:=af (fun W (h:But [] w W)=>zwb v fs inc W m c (hv.but h) (by omega) hi lf hc (TabIs.but htab h) (h.ag hm (by simp)))
simp only[List.flatten_cons,List.flatten_nil,List.append_nil,← hUU] at CO
rw[← hUU] at lo lu ⊢
have SA:=af (fun W v' vo vu (h1:aq W v' (exL fs inc)) (h2:am W vo (r*(((U:Nat):Int):Rat))) (h3:am W vu (((U:Nat):Int):Rat))=>qbm v' vo vu (exL fs inc) _ _ W h1 (by omega) (by omega) h2 h3 lx lo lu)
generalize sfQ (exL fs inc) (r*(((U:Nat):Int):Rat)) (((U:Nat):Int):Rat)=sq at *
generalize exL fs inc=L at *
obtain⟨q,cap,rfl,hcap,-⟩:=id hv
obtain⟨x1,y1,p1,rfl,-⟩:=id hr.agg
generalize hs1:decide (r.num<0)=s1 at *
obtain⟨A,hA⟩:∃ A,A=w.alloc (.cells #[.bool s1,.int .u64 x1,.int .u64 y1,.pointer p1] 27):=⟨_,rfl⟩
have bA:But [] w A:=by rw[hA];exact (But.refl _ _).alloc _
have c5:P4 A w.heap.size s1 x1 y1 p1:=by rw[hA];exact⟨by simp,by simp,by simp,by simp⟩
have HR:=af hr
have BA:=af bA
have C5:=af c5
have LR:=af lr
have LO:=af lo
have LU:=af lu
have H1:=af h1
clear hv hr hs1 bA c5 htab hm lf hk hcap hlen lx lr lo lu hUU h1
generalize fs.length=n at *
go_enter func23,ntmps23
go_wp2_with fail
rw[← hA]
refine (ae F0 _).mono ?_
rintro e w1 ⟨rfl,hb1⟩
have B1:=af ((ae BA).trans' hb1)
have C51:=af ((ae C5).but hb1 (by simp))
clear hb1 BA C5 hA F0
go_wp2_with fail
refine (ae CK _ (ae B1)).mono ?_
rintro e w2 ⟨rfl,hb2⟩
have B2:=af ((ae B1).trans' hb2)
have C52:=af ((ae C51).but hb2 (by simp))
clear hb2 B1 C51 CK
rw[show zju 0=.nilIface from rfl]
go_wp2_with fail
generalize hg5:w.heap.size=g5 at *
obtain⟨ws,wx,FW,CW⟩:=zar 1 (by omega) (by omega)
obtain⟨rc,hrc⟩:∃ rc,rc=zbc (r.num*((((1:Int):Rat)).den:Int)) ((((1:Int):Rat)).num*(r.den:Int)):=⟨_,rfl⟩
have hlt:=(znx r ((1:Int):Rat) rc hrc).1
refine zhp 4 _ _ w2 s1 x1 y1 p1 ws wx rc (by simp) g5 (by simp[Act.eval]) (ae C52) CW (fun w' hb=>zcw _ _ r ((1:Int):Rat) w' ((ae HR).but ((ae B2).trans' hb)) (FW w') ((ae LR).mono (by omega)) ((zct 1 (by decide)).mono (by omega)) rc hrc) ?_
intro w3 hb3
simp only[bi,List.foldl_cons,List.foldl_nil,Act.put,List.setIfInBounds_toArray,List.set_cons_zero,List.set_cons_succ]
have hr0:decide (rc<0)=false:=by
 rw[decide_eq_false]
 intro h
 exact absurd (hlt.1 h) (Rat.not_lt.2 (ae H1))
rw[hr0]
have B3:=af ((ae B2).trans' hb3)
have C53:=af ((ae C52).but hb3 (by simp))
clear hb3 B2 C52 hlt hrc hr0 FW CW
obtain⟨k0,k1,k2,k3⟩:=ae C53
go_wp2_with fail
clear k0 k1 k2 k3
obtain⟨D,hD⟩:∃ D,D=w3.alloc (.cells #[.bool s1,.int .u64 x1,.int .u64 y1,.pointer p1] 27):=⟨_,rfl⟩
obtain⟨E,hE⟩:∃ E,E=D.alloc (.cells #[.slice (some ⟨w3.heap.size,0,none⟩) 1 1] 46):=⟨_,rfl⟩
have sD:D.heap.size=w3.heap.size+1:=by rw[hD];simp
have bD:But [] w3 D:=by rw[hD];exact (But.refl _ _).alloc _
have bE:But [] D E:=by rw[hE];exact (But.refl _ _).alloc _
have rB:aq D (.slice (some ⟨w3.heap.size,0,none⟩) 1 1) [r]:=by
 have h:oh D w3.heap.size 1 (fun _=>r):=⟨fun j hj=>by
  obtain rfl:j=0:=by omega
  rw[Nat.zero_mul]
  exact⟨s1,x1,y1,p1,by rw[hD];exact⟨by simp,by simp,by simp,by simp⟩,(ae HR).but ((ae B3).trans' bD)⟩,fun o=>by rw[hD];simp⟩
 exact h.znr
have hL:zbr E (.slice (some ⟨w3.heap.size+1,0,none⟩) 1 1) [[r]]:=by
 refine⟨some ⟨w3.heap.size+1,0,none⟩,1,rfl,Nat.le_refl _,fun i l hil=>?_⟩
 obtain rfl:i=0:=by
  have:=(List.getElem?_eq_some_iff.1 hil).1
  simpa using this
 obtain rfl:[r]=l:=by simpa using hil
 exact⟨_,_,.slice (some ⟨w3.heap.size,0,none⟩) 1 1,rfl,by rw[hE,← sD];simp,rB.but bE⟩
rw[← hD,← hE]
have B4:=af ((ae B3).trans' (bD.trans' bE))
have C54:=af ((ae C53).but (bD.trans' bE) (by simp))
refine (ae CO _ _ (ae B4) hL).mono ?_
rintro e w5 ⟨v5,rfl,hf5,hb5⟩
have B5:=af ((ae B4).trans' hb5)
have C55:=af ((ae C54).but hb5 (by simp))
obtain⟨x2,y2,p2,rfl,-⟩:=id hf5.agg
generalize decide ((((U:Nat):Int):Rat).num<0)=s2 at *
have HF5:=af hf5
clear hf5 hb5 hL rB bD bE sD hD hE B3 B4 C53 C54 CO
go_wp2_with fail
obtain⟨V,hV⟩:∃ V,V=w5.alloc (.cells #[.bool s2,.int .u64 x2,.int .u64 y2,.pointer p2] 27):=⟨_,rfl⟩
have bV:But [] w5 V:=by rw[hV];exact (But.refl _ _).alloc _
have C9:Hid (P4 V w5.heap.size s2 x2 y2 p2):=by rw[hV];exact⟨by simp,by simp,by simp,by simp⟩
rw[← hV]
have B6:=af ((ae B5).trans' bV)
have C56:=af ((ae C55).but bV (by simp))
have F6:=af ((ae HF5).but bV)
clear hV bV B5 C55 HF5
generalize w5.heap.size=g9 at *
refine zrb 7 _ _ V (inc:Int) (.slice q n cap) L s1 x1 y1 p1 s2 x2 y2 p2 r (((U:Nat):Int):Rat) sq (by simp) g5 g9 (by simp[Act.eval]) (by simp[Act.eval]) (by simp[Act.eval]) (by simp[Act.eval]) (ae C56) (ae C9) (fun w' hb=>ae EX w' ((ae B6).trans' hb)) (fun w' hb=>j4 _ _ _ _ w' ((ae HR).but ((ae B6).trans' hb)) ((ae F6).but hb) ((ae LR).mono (by omega)) ((ae LU).mono (by omega))) (fun w' v' v'' hb h1 h2=>ae SA w' v' v'' _ h1 h2 ((ae F6).but hb)) ?_
intro w7 v2 v5 hb7
simp only[bi,List.foldl_cons,List.foldl_nil,Act.put,List.setIfInBounds_toArray,List.set_cons_zero,List.set_cons_succ]
have B7:=af ((ae B6).trans' hb7)
clear hb7 B6 C56 F6 C9
go_wp2
go_ret2
exact⟨rfl,ae B7⟩)
def zdc (fs:List Rat) (k:Nat):Nat:=(atR fs k*(((jf 1 fs:Nat):Int):Rat)).num.toNat
theorem zhi {fs:List Rat} (h:∀ f ∈ fs,0≤f) (k:Nat):(((zdc fs k:Nat):Int):Rat)=atR fs k*(((jf 1 fs:Nat):Int):Rat):=by(
unfold zdc
have hU:(0:Rat)≤(((jf 1 fs:Nat):Int):Rat):=by
 have:(0:Int)≤(jf 1 fs:Int):=by omega
 exact Rat.intCast_nonneg.2 this
have h0:=Rat.mul_nonneg (qar h k) hU
by_cases hk:k<fs.length
·(
obtain⟨z,hz⟩:=zjx fs 1 (atR fs k) (by
 unfold atR
 rw[List.getElem?_eq_getElem hk]
 exact List.getElem_mem hk)
rw[hz] at h0 ⊢
rw[Rat.num_intCast]
have:=Rat.intCast_nonneg.1 h0
rw[Int.toNat_of_nonneg this])
·rw[zfo (by omega),Rat.zero_mul];rfl)
theorem zqf (n:Nat):∀ d,d≤n→(o9 n (n-d)).map (fun z:Fin n=>z.1)=dnL n d
 | 0,_=>by
  rw[Nat.sub_zero,znv];rfl
 | d+1,h=>by
  rw[zla n (n-(d+1)) (by omega),List.map_append,show n-(d+1)+1=n-d from by omega,zqf n d (by omega)]
  rfl
theorem qis (fs:List Rat) (inc j:Nat) (hj:j<max fs.length (inc+1)):(exL fs inc)[j]?.getD 0=atR fs j*(((jf 1 fs:Nat):Int):Rat)-(if j=inc then (((jf 1 fs:Nat):Int):Rat) else 0):=by(
unfold exL
rw[List.getElem?_map,List.getElem?_range hj]
show exF fs inc (jf 1 fs) j=_
unfold exF
by_cases h:j<fs.length
·rw[if_pos h];rfl
·rw[if_neg h,zfo (by omega)];grind)
theorem qfi (fs:List Rat) (inc:Nat) (o u r:Rat) (hu:0<u) (ho:o=r*u):sfQ (exL fs inc) o u=decide (sgR (fun j=>atR fs j*zw r j) fs.length≤zw r inc):=by(
have hU:(0:Rat)<(((jf 1 fs:Nat):Int):Rat):=by
 have h:=zgi fs 1 (by omega)
 have:(0:Int)<(jf 1 fs:Int):=by omega
 exact Rat.intCast_pos.2 this
have hz:=zsl fs inc
have ed:(o9 (exL fs inc).length 0).map (fun z:Fin (exL fs inc).length=>z.1)=dnL (exL fs inc).length (exL fs inc).length:=by
 have:=zqf (exL fs inc).length (exL fs inc).length (Nat.le_refl _)
 rw[Nat.sub_self] at this
 exact this
unfold sfQ
rw[ed,hz]
exact decide_eq_decide.2 (zyh (atR fs) (fun t=>(exL fs inc)[t]?.getD 0) fs.length inc (max fs.length (inc+1)) _ r o u hU hu ho (Nat.le_max_left _ _) (by omega) (fun k hk=>zfo hk) (fun j hj=>qis fs inc j hj)))
theorem zhh {fs:List Rat} (h:ol fs=0):sgR (atR fs) fs.length=1∧sgN (zdc fs) fs.length=jf 1 fs:=by(
obtain⟨-,-,hp,hs⟩:=zfn h
rw[qfa] at hs
exact⟨hs,qkq (atR fs) (zdc fs) fs.length _ (zhi hp) hs⟩)
theorem qdz {fs:List Rat} (inc L:Nat) (h:ol fs=0) (hL:(wd 18446744073709551616 (jf 1 fs)).length≤L) (h1:1≤L) (f:Rat) (hf:f ∈ exL fs inc):Len f (2*L+1):=by(
obtain⟨-,-,hp,-⟩:=zfn h
obtain⟨-,hs⟩:=zhh h
obtain⟨j,hj,rfl⟩:=List.mem_iff_getElem.1 hf
have hj2:j<max fs.length (inc+1):=by rw[← zsl fs inc];exact hj
have e:=qis fs inc j hj2
rw[List.getElem?_eq_getElem hj,Option.getD_some] at e
rw[e,← zhi hp j]
have l1:Len (((zdc fs j:Nat):Int):Rat) L:=by
 refine jq _ (jf 1 fs) ?_ hL h1
 by_cases hk:j<fs.length
 ·have:∀ n,j<n→zdc fs j≤sgN (zdc fs) n:=fun n=>by
   induction n with
   | zero=>intro h;omega
   | succ n ih =>
    intro h
    by_cases e:j=n
    ·subst e;exact Nat.le_add_left _ _
    ·exact Nat.le_trans (ih (by omega)) (Nat.le_add_right _ _)
  rw[← hs]
  exact this _ hk
 ·have:=zhi hp j
  rw[zfo (by omega),Rat.zero_mul] at this
  have h0:(((zdc fs j:Nat):Int):Rat)=(((0:Nat):Int):Rat):=this
  rw[zrw h0]
  exact Nat.zero_le _
have l2:Len (if j=inc then (((jf 1 fs:Nat):Int):Rat) else 0) L:=by
 by_cases hi:j=inc
 ·rw[if_pos hi];exact jq _ _ (Nat.le_refl _) hL h1
 ·rw[if_neg hi];exact zim _ h1
exact zsc l1 l2 _ (by omega))
end Go.Proofs.YtagmkkiagjmimaaGreatDoor
