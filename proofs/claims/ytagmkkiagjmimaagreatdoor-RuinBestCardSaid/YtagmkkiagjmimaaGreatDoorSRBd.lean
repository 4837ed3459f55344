/- RuinBest: every input.  -/
import Derived.Test.YtagmkkiagjmimaaGreatDoorSRBb
import Derived.Test.YtagmkkiagjmimaaGreatDoorSRBc
import Derived.Test.YtagmkkiagjmimaaGreatDoorSRUg
namespace Go.Proofs.YtagmkkiagjmimaaGreatDoor
open Go.Proofs.Tryz
open Go.RowKit
set_option maxHeartbeats 4000000
set_option linter.unusedVariables false
theorem zrm (S:Nat→Bool) (a:Nat):∀ d,∃ k,a≤k∧k≤a+d∧(k=a∨S k=true)∧∀ j,k<j→j≤a+d→S j=false
 | 0=>⟨a,Nat.le_refl _,Nat.le_refl _,.inl rfl,fun j h1 h2=>absurd h1 (by omega)⟩
 | d+1=>by
  cases h:S (a+(d+1)) with
  | true=>exact⟨a+(d+1),by omega,Nat.le_refl _,.inr h,fun j h1 h2=>absurd h1 (by omega)⟩
  | false =>
   obtain⟨k,h1,h2,h3,h4⟩:=zrm S a d
   refine⟨k,h1,by omega,h3,fun j h5 h6=>?_⟩
   by_cases e:j=a+(d+1)
   ·rw[e];exact h
   ·exact h4 j h5 (by omega)
def ut (un k:Nat):Rat:=(((k:Nat):Int):Rat)*(((un:Nat):Int):Rat)⁻¹
theorem zjg (un k:Nat) (hu:0<un):ut un k*(((un:Nat):Int):Rat)=(((k:Nat):Int):Rat):=by(
 have h0:(((un:Nat):Int):Rat)≠0:=by
  have:(0:Rat)<(((un:Nat):Int):Rat):=Rat.intCast_pos.2 (by omega)
  grind
 unfold ut
 rw[Rat.mul_assoc,Rat.inv_mul_cancel _ h0,Rat.mul_one])
theorem zjy (un k:Nat) (hu:0<un) (h1:un≤16) (h2:k≤2000):Len (ut un k) 1:=by(
 obtain⟨-,-,-,h,-⟩:=zhk ((k:Int),(un:Int)) ⟨by omega,by omega,by omega,by omega⟩
 have e:qf ((k:Int),(un:Int))=ut un k:=by
  unfold qf ut
  rw[if_neg (by omega),Rat.div_def]
 rw[e] at h
 exact h)
theorem qan (un:Nat) (hu:0<un) (h1:un≤16):Len ((((un:Nat):Int):Rat)⁻¹) 1:=by(
 have:=zjy un 1 hu h1 (by omega)
 have e:ut un 1=(((un:Nat):Int):Rat)⁻¹:=by
  unfold ut
  exact Rat.one_mul _
 rw[e] at this
 exact this)
theorem zvo (un j k:Nat) (hu:0<un) (h:j≤k):ut un j≤ut un k:=by(
 have hun:(0:Rat)<(((un:Nat):Int):Rat):=Rat.intCast_pos.2 (by omega)
 refine Rat.le_of_mul_le_mul_right (c:=(((un:Nat):Int):Rat)) ?_ hun
 rw[zjg un j hu,zjg un k hu]
 exact Rat.intCast_le_intCast.2 (by omega))
theorem zmt (un:Nat) (hu:0<un):ut un un=1:=by(
 have h0:(((un:Nat):Int):Rat)≠0:=by
  have:(0:Rat)<(((un:Nat):Int):Rat):=Rat.intCast_pos.2 (by omega)
  grind
 exact Rat.mul_inv_cancel _ h0)
theorem zoi (v:Value) (qs:List (Int × Int)) (inc bits:Int) (mx:Int) (w:World) (hv:zss w v qs) (hf:∀ q ∈ qs,Fits q) (htab:Lib.TabIs prog w "internal/strconv.uint64pow10" .u64 Lib.pow10Tab) (herr:w.cell? ⟨0,0,none⟩=some (.iface 219 (.agg #[.pointer (some ⟨7,29,none⟩)]))) (hmx:w.cell? ⟨4,0,none⟩=some (.int .i64 mx)) :
   Calls prog 5 #[.int .i64 inc,v,.int .i64 bits] w fun e w'=>e=.returned (.bool true)∧But [] w w':=by(
 obtain⟨a,cap,rfl,-,-⟩:=id hv
 by_cases hg:(12<qs.length∧qs.length≤201)∨¬ (12<qs.length∧qs.length≤201)∧(230<qs.length∨qs.length≤230∧4<bits∧bits≤12)
 ·exact zzy inc bits a qs.length cap w hg
 have hg1:qs.length≤12∨201<qs.length∧qs.length≤230:=by omega
 have hg2:bits≤4∨12<bits:=by omega
 obtain⟨fs,hfs⟩:∃ fs,fs=qs.map qf:=⟨_,rfl⟩
 have hln:fs.length=qs.length:=by rw[hfs];simp
 have lf:=zzg hf
 rw[← hfs] at lf
 obtain⟨z2,hz2⟩:∃ z,z=ruE fs 0 inc 0:=⟨_,rfl⟩
 have LI:∀ W,But [] w W→Calls prog 15 #[.slice a qs.length cap] W fun e w'=>∃ v,e=.returned v∧jl w' v fs∧But [] W w':=fun W hb=>by
  rw[hfs]
  exact (zqs _ qs W (hv.but hb) hf (by omega)).mono fun e w' ⟨v',us,he,ho,hbt⟩=>⟨v',he,ho.qju,hbt⟩
 have RC:∀ W v,jl W v fs→Calls prog 16 #[.int .i64 0,.int .i64 inc,v,.int .i64 0] W fun e w'=>e=.returned (.int .i64 z2)∧But [] W w':=fun W v h=>by
  rw[hz2];exact zqr v fs 0 inc 0 W 1 h (by omega) lf (by omega)
 have PL:∀ W,But [] w W→Calls prog 18 #[.slice a qs.length cap] W fun e w'=>∃ v,e=.returned v∧aq w' v fs∧But [] W w':=fun W hb=>by
  rw[hfs];exact zon _ qs W (hv.but hb) hf (by omega)
 by_cases hbad:z2≠0∨bits<0∨12<bits
 ·(
 obtain⟨z,hz⟩:∃ z,z=if z2≠0 then z2 else 2:=⟨_,rfl⟩
 have hz0:z≠0:=by
  rw[hz]
  split
  ·assumption
  ·decide
 refine qgk inc bits a qs.length cap fs z2 z (.iface 33 (.int .i64 z)) 0 w hg1 LI RC PL (fun W v hb h=>?_) (fun W=>zbk 0 W (by omega) (by omega)) hg2 ?_ hz0 (fun W v x hb h=>qfy z v _ W h (by simpa using hz0) (TabIs.but htab hb) (hb.ag herr (by simp)))
 ·exact (qec v fs inc bits W 1 h (by omega) lf (by omega) z z2 (by rw[hz2,qip]) hz (fun h0 hb2=>by omega)).mono fun e w' ⟨he,hbt⟩=>⟨(false,0,0,none),he,zaj w',hbt⟩
 ·by_cases h0:z2=0
  ·exact .inr ⟨h0,by omega,by rw[hz,if_neg (fun h=>h h0)]⟩
  ·exact .inl ⟨h0,by rw[hz,if_pos h0]⟩)
 ·(
 have h0:z2=0:=by omega
 subst h0
 obtain⟨hk,⟨-,-,p3,p4,-,-⟩,hl⟩:=qbb hz2.symm
 obtain⟨cn,rfl⟩:∃ k:Nat,inc=(k:Int):=⟨inc.toNat,by omega⟩
 obtain⟨bn,rfl⟩:∃ k:Nat,bits=(k:Int):=⟨bits.toNat,by omega⟩
 obtain⟨hn0,-,hp,-⟩:=zlf hk
 obtain⟨hsum1,-⟩:=zpw hk
 have hU20:=zzo lf (by omega)
 have lx:∀ f ∈ exL fs cn,Len f 100:=fun f hf=>(zzh cn 20 hk hU20 (by omega) f hf).mono (by omega)
 obtain⟨un,hun⟩:∃ un,un=2^bn:=⟨_,rfl⟩
 have u1:0<un:=by rw[hun];exact Nat.one_le_two_pow
 have u2:un≤16:=by rw[hun];exact Nat.pow_le_pow_right (n:=2) (by omega) (by omega:bn≤4)
 have hunR:(0:Rat)<(((un:Nat):Int):Rat):=Rat.intCast_pos.2 (by omega)
 obtain⟨S,hS⟩:∃ S:Nat→Bool,S=fun k=>decide (sgR (fun j=>atR fs j*zn (ut un k) j) fs.length≤zn (ut un k) cn):=⟨_,rfl⟩
 have tell:∀ k,sfQ (exL fs cn) (((k:Nat):Int):Rat) (((un:Nat):Int):Rat)=S k:=fun k=>by
  rw[hS]
  exact qar fs cn _ _ (ut un k) hunR (zjg un k u1).symm
 have below:∀ j k,un≤j→j≤k→S k=true→S j=true:=fun j k h1 h2 h=>by
  rw[hS] at h ⊢
  have h3:=of_decide_eq_true h
  refine decide_eq_true (ztg (atR fs) (zww hp) fs.length cn hsum1 _ _ ?_ (zvo un j k u1 h2) h3)
  rw[← zmt un u1]
  exact zvo un un j u1 h1
 obtain⟨k0,m1,m2,m3,m4⟩:=zrm S un (63*un)
 refine qeb (cn:Int) bn un a qs.length cap fs (ut un k0) S w hg1 LI RC PL (fun W v hb h=>?_) (fun W=>zbk 0 W (by omega) (by omega)) (by omega) hun (fun W=>zbk 1 W (by omega) (by omega)) (fun W=>zbk 2 W (by omega) (by omega)) (fun W x h=>?_) (fun W x y hx hy=>?_) (fun W k hk=>zbk (k:Int) W (by omega) (by omega)) (fun W k x y hk hx hy=>?_) (fun W k v x hk h hx=>?_) (fun k h1 h2 h3 h4=>?_) (fun h=>?_) (fun W v x hb h1 h2=>qit v _ x W h1 h2 ((zjy un k0 u1 u2 (by omega)).mono (by omega)) (TabIs.but htab hb))
 ·(
 refine (zqn v fs cn bn un W mx 1 h hl (by omega) (by omega) hun lf (by omega) hk lx (TabIs.but htab hb) (hb.ag hmx (by simp))).mono ?_
 rintro e w' ⟨i,f,s,x,y,p,he,hf1,-,hfn,hi,hst,hnx,hbt⟩
 have e0:un+i=k0:=by
  rw[tell (un+1+i)] at hnx
  rcases Nat.lt_or_ge (un+i) k0 with h1 | h1
  ·exfalso
   have t1:S k0=true:=by
    rcases m3 with h2 | h2
    ·omega
    ·exact h2
   rcases hnx with h2 | h2
   ·omega
   ·rw[below (un+1+i) k0 (by omega) (by omega) t1] at h2
    exact absurd h2 (by decide)
  ·rcases Nat.lt_or_ge k0 (un+i) with h2 | h2
   ·exfalso
    have h5:=m4 (un+i) h2 (by omega)
    rcases hst with h3 | h3
    ·omega
    ·rw[tell,show un+1+(i-1)=un+i by omega,h5] at h3
     exact absurd h3 (by decide)
   ·omega
 have ef:f=ut un k0:=by
  have h1:=qbe hfn
  rw[e0] at h1
  have h2:=zjg un k0 u1
  have h3:f*(((un:Nat):Int):Rat)=ut un k0*(((un:Nat):Int):Rat):=by rw[h1,h2]
  exact Rat.le_antisymm (Rat.le_of_mul_le_mul_right (by rw[h3];exact Rat.le_refl) hunR) (Rat.le_of_mul_le_mul_right (by rw[h3];exact Rat.le_refl) hunR)
 rw[← ef]
 exact⟨(s,x,y,p),he,hf1,hbt⟩)
 ·(
 refine (zmv x _ bn W h ((qw.int (z:=2) (by decide)).mono (by omega)) (by omega)).mono ?_
 rintro e w' ⟨zb,he,hr,hbt⟩
 refine⟨zb,he,?_,hbt⟩
 have e2:=zrc 2 bn
 rw[zjj,← hun] at e2
 rw[← e2]
 exact hr)
 ·exact qfq x y _ _ _ W (.inl hx) hy ((qw.int (by decide)).mono (by omega)) ((qw.int (by rw[Int.natAbs_natCast];omega)).mono (by omega)) (by rw[(bj _).1];omega) (by
   rw[Rat.inv_mul_cancel _ (by grind)];rfl)
 ·exact zok x y _ _ W hx hy ((qw.int (by rw[Int.natAbs_natCast];omega)).mono (by omega)) ((zef (qan un u1 u2)).mono (by omega))
 ·rw[hS]
  exact ztn v fs cn x (ut un k) W h hx hl (by omega) lf (zjy un k u1 u2 (by omega)) _ rfl
 ·(
 have:k=k0:=by
  rcases Nat.lt_or_ge k k0 with h5 | h5
  ·exfalso
   rcases m3 with h6 | h6
   ·omega
   ·rw[h4 k0 h5 (by omega)] at h6
    exact absurd h6 (by decide)
  ·rcases Nat.lt_or_ge k0 k with h6 | h6
   ·rw[m4 k h6 (by omega)] at h3
    exact absurd h3 (by decide)
   ·omega
 rw[this];rfl)
 ·(
 have:k0=un:=by
  rcases m3 with h6 | h6
  ·exact h6
  ·rcases Nat.lt_or_ge un k0 with h7 | h7
   ·rw[h k0 h7 (by omega)] at h6
    exact absurd h6 (by decide)
   ·omega
 rw[this,zmt un u1];rfl)))
end Go.Proofs.YtagmkkiagjmimaaGreatDoor
