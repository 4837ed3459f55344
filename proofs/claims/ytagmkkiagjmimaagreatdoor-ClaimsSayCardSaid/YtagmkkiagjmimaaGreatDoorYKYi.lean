/- What a law tells: both sides, part by pa -/
import Derived.Test.YtagmkkiagjmimaaGreatDoorYEKs
import Derived.Test.YtagmkkiagjmimaaGreatDoorYKR
import Derived.Test.YtagmkkiagjmimaaGreatDoorYKYf
namespace Go.Proofs.YtagmkkiagjmimaaGreatDoor
open Go.Proofs.Tryz
open Go.RowKit
set_option maxHeartbeats 4000000
set_option linter.unusedVariables false
theorem zoj (w:World):Calls prog 10 #[.nilIface] w fun e w'=>e=.returned (.int .i64 0)∧But [] w w':=by(
 go_enter func10,ntmps10
 go_wp2
 go_ret
 exact⟨rfl,But.refl _ _⟩)
theorem zjk {f:Rat} {n:Nat} (h:zu f n):Len f n:=by(
 have e:∀ m:Nat,(wd 4294967296 m).length≤n→(wd 18446744073709551616 m).length≤n:=fun m hm=>by
  refine aj (by omega) m n (Nat.lt_of_lt_of_le (ak (by omega) m n hm) (Nat.pow_le_pow_left (by omega) n))
 exact⟨e _ h.1,e _ h.2⟩)
theorem zax {w:World} {v:Value} {fs:List Rat} (h:au w v fs) (h0:0<fs.length):∃ b off cap,v=.slice (some ⟨b,off,none⟩) fs.length cap∧fs.length≤cap:=by(
 obtain⟨a,cap,e,hc,h⟩:=h
 obtain⟨b,off,rfl,-⟩:=h 0 _ (List.getElem?_eq_getElem h0)
 exact⟨b,off,cap,e,hc⟩)
theorem zjn (P:Nat→Prop):∀ n,(∀ j,j<n→P j)∨∃ q,q<n∧(∀ j,j<q→P j)∧¬ P q
 | 0=>.inl fun j hj=>absurd hj (by omega)
 | n+1=>by
  rcases zjn P n with h|⟨q,h1,h2,h3⟩
  ·by_cases hp:P n
   ·exact .inl fun j hj=>by
     by_cases e:j=n
     ·rw[e];exact hp
     ·exact h j (by omega)
   ·exact .inr ⟨n,by omega,h,hp⟩
  ·exact .inr ⟨q,by omega,h2,h3⟩
theorem qlm {F:Nat→Rat} {n:Nat} (hF:∀ k,k<n→0≤F k) {a b:Nat} (hab:a≤b) (hb:b≤n):sgR F a≤sgR F b:=by(
 have h:=zve F a (b-a) (fun k h1 h2=>hF k (by omega))
 rw[show a+(b-a)=b by omega] at h
 exact h)
theorem zcg (fs:List Rat) (i:Nat) (h:i<fs.length):fs[i]? = some (atR fs i):=by
 unfold atR
 rw[List.getElem?_eq_getElem h];rfl
theorem zab {fs:List Rat} {c:Nat} (lf:∀ f ∈ fs,Len f c) (i:Nat) (h:i<fs.length):zu (atR fs i) (2*c):=by(
 have e:=zcg fs i h
 have hm:atR fs i ∈ fs:=List.mem_of_getElem? e
 exact uw (lf _ hm))
theorem zhv (fs:List Rat) (g:Nat→Int):l9 fs g fs.length=sgR (fun i=>((g i:Int):Rat)*atR fs i) fs.length:=by(
 rw[ztf]
 congr 1
 funext i
 show fs[i]?.getD 0*_=_*fs[i]?.getD 0
 grind)
theorem qcg (fs:List Rat) (a:Nat):l9 fs (fun k=>max ((k:Int)-(a:Int)) 0) fs.length=sgR (fun i=>if a<i then ((((i:Int)-(a:Int):Int)):Rat)*atR fs i else 0) fs.length:=by(
 rw[zhv]
 congr 1
 funext i
 by_cases h:a<i
 ·rw[if_pos h,show max ((i:Int)-(a:Int)) 0=(i:Int)-(a:Int) by omega]
 ·rw[if_neg h,show max ((i:Int)-(a:Int)) 0=0 by omega]
  show (0:Rat)*_=0
  grind)
theorem qho (xb yb:Nat) (f g:Rat) (w:World) (hx:ze w xb f) (hy:ze w yb g) (lf:zu f 2000000) (lg:zu g 2000000) :
   Calls prog 22 #[.pointer (some ⟨xb,0,none⟩),.pointer (some ⟨yb,0,none⟩)] w fun e w'=>e=.returned (.int .i64 (yu (f.num*((g.den:Nat):Int)) (g.num*((f.den:Nat):Int))))∧But [] w w':=by(
 have hfd:0<f.den:=Nat.pos_of_ne_zero f.den_nz
 have hgd:0<g.den:=Nat.pos_of_ne_zero g.den_nz
 obtain⟨lf1,lf2⟩:=lf
 obtain⟨lg1,lg2⟩:=lg
 have d1:(wd 4294967296 ((f.den:Nat):Int).natAbs).length≤2000000:=by rw[Int.natAbs_natCast];exact lf2
 have d2:(wd 4294967296 ((g.den:Nat):Int).natAbs).length≤2000000:=by rw[Int.natAbs_natCast];exact lg2
 have p1:=qp f.num (g.den:Int) _ _ lf1 d2
 have p2:=qp g.num (f.den:Int) _ _ lg1 d1
 refine (zkc xb yb f.num g.num f.den g.den w hx hy hfd hgd (by omega) (by omega) (by omega) (by omega) _ _ rfl rfl (by omega) (by omega)).mono ?_
 rintro e w' ⟨rfl,hb⟩
 exact⟨rfl,hb⟩)
theorem qbc (f g:Rat):(0<yu (f.num*((g.den:Nat):Int)) (g.num*((f.den:Nat):Int))↔g<f)∧(0≤yu (f.num*((g.den:Nat):Int)) (g.num*((f.den:Nat):Int))↔g≤f):=by(
 have l1:=Rat.lt_iff (a:=f) (b:=g)
 have l2:=Rat.lt_iff (a:=g) (b:=f)
 have l3:g≤f↔¬ f<g:=Rat.not_lt.symm
 constructor
 ·rw[l2];unfold yu;split
  ·omega
  ·split <;> omega
 ·rw[l3,l1];unfold yu;split
  ·omega
  ·split <;> omega)
theorem ziq (fs:List Rat) (z:Int) (m:Rat) (L:Nat) (hL:L≤1000000) (fn gn:FuncId) (xs:List Value) (w:World) (htab:Lib.TabIs prog w "internal/strconv.uint64pow10" .u64 Lib.pow10Tab) (herr:w.cell? ⟨0,0,none⟩=some (.iface 219 (.agg #[.pointer (some ⟨7,29,none⟩)])))
   (PR:∀ W v,But [] w W→au W v fs→Calls prog fn (v::xs).toArray W fun e w'=>zrh w' e z m∧But [] W w')
   (RE:z=0→zu m L∧∀ W v,zn W v fs→Calls prog gn (v::xs).toArray W fun e w'=>∃ b,e=.returned (.pointer (some ⟨b,0,none⟩))∧ze w' b m∧But [] W w') :
   ∃ r:Rat,(∀ W v,But [] w W→au W v fs→Calls prog fn (v::xs).toArray W fun e w'=>∃ t:FZ,e=.returned (.tuple #[.agg #[.bool t.1,.int .u64 t.2.1,.int .u64 t.2.2.1,.pointer t.2.2.2],zcm z])∧aq w' (.agg #[.bool t.1,.int .u64 t.2.1,.int .u64 t.2.2.1,.pointer t.2.2.2]) r∧But [] W w')
    ∧ (z=0→∀ W v,zn W v fs→Calls prog gn (v::xs).toArray W fun e w'=>∃ b,e=.returned (.pointer (some ⟨b,0,none⟩))∧ze w' b r∧But [] W w')
    ∧ (∀ W v x,But [] w W→aq W v r→(z=0→ze W x r)→Calls prog 21 #[v,zcm z,.pointer (some ⟨x,0,none⟩),.int .i64 z] W fun e w'=>e=.returned (.bool true)∧But [] W w'):=by(
 by_cases h0:z=0
 ·(
 obtain⟨hl,hr⟩:=RE h0
 have e0:zcm z=.nilIface:=by unfold zcm;rw[if_pos h0]
 refine⟨m,fun W v hb hv=>(PR W v hb hv).mono ?_,fun _=>hr,fun W v x hb hv hx=>?_⟩
 ·rintro e w' ⟨hm,hbt⟩
  rcases hm with ⟨h1,-⟩|⟨-,s,x,y,p,he,hf⟩
  ·exact absurd h0 h1
  ·exact⟨(s,x,y,p),by rw[he,e0],hf,hbt⟩
 ·have:=qex v m x W hv (hx h0) ((zjk hl).mono hL) (TabIs.but htab hb)
  rw[e0,h0]
  exact this)
 ·(
 have e0:zcm z=.iface 33 (.int .i64 z):=by unfold zcm;rw[if_neg h0]
 refine⟨0,fun W v hb hv=>(PR W v hb hv).mono ?_,fun h=>absurd h h0,fun W v x hb hv hx=>?_⟩
 ·rintro e w' ⟨hm,hbt⟩
  rcases hm with ⟨-,he⟩|⟨h1,-⟩
  ·exact⟨(false,0,0,none),by rw[he,e0],yw w',hbt⟩
  ·exact absurd h1 h0
 ·rw[e0]
  exact zqf z v _ W hv (by simpa using h0) (TabIs.but htab hb) (hb.ag herr (by simp))))
theorem zzj {F:Nat→Rat} {n:Nat} (hF:∀ k,k<n→0≤F k) {ch:Rat} {q k:Nat} (hq:q<n) (hk:k<n) (h1:∀ j,j<q→sgR F (j+1)<ch) (h2:¬ sgR F (q+1)<ch) (h3:sgR F k<ch) (h4:¬ sgR F (k+1)<ch):k=q:=by(
 rcases Nat.lt_trichotomy k q with h | h | h
 ·exact absurd (h1 k h) h4
 ·exact h
 ·have:=qlm hF (show q+1≤k by omega) (by omega)
  grind)
theorem zvp (fs:List Rat) (ch:Rat) (z z1:Int) (s5:Bool) (x5 y5:Int) (p5:Option Addr) (w:World) (hn:fs.length≤1000) (lf:∀ f ∈ fs,Len f 1) (lch:Len ch 1) (hr:∀ W,aq W (.agg #[.bool s5,.int .u64 x5,.int .u64 y5,.pointer p5]) ch) (htab:Lib.TabIs prog w "internal/strconv.uint64pow10" .u64 Lib.pow10Tab) (herr:w.cell? ⟨0,0,none⟩=some (.iface 219 (.agg #[.pointer (some ⟨7,29,none⟩)]))) (hz:z=yc fs) (hz1:z1=if z=0∧(ch≤0∨1<ch) then 2 else z) :
   ∃ (kq:Int) (ev:Value),(∀ W v,But [] w W→au W v fs→Calls prog 45 #[v,.agg #[.bool s5,.int .u64 x5,.int .u64 y5,.pointer p5]] W fun e w'=>e=.returned (.tuple #[.int .i64 kq,ev])∧But [] W w')
    ∧ (z1=0→∀ W v x,zn W v fs→ze W x ch→Calls prog 46 #[v,.pointer (some ⟨x,0,none⟩)] W fun e w'=>e=.returned (.int .i64 kq)∧But [] W w')
    ∧ (z1≠0→kq=0)
    ∧ (∀ W,But [] w W→Calls prog 10 #[ev] W fun e w'=>e=.returned (.int .i64 z1)∧But [] W w'):=by(
 by_cases h0:z=0
 ·(
 have hk:yc fs=0:=hz.symm.trans h0
 obtain⟨hn0,hn1,hpos,hone⟩:=zcf hk
 have hF:∀ k,k<fs.length→0≤atR fs k:=fun k h=>zjd hpos k h
 have hs1:sgR (atR fs) fs.length=1:=by rw[zlx] at hone;exact hone
 by_cases h1:ch≤0∨1<ch
 ·(
 obtain rfl:z1=2:=by rw[hz1,if_pos ⟨h0,h1⟩]
 refine⟨0,.iface 33 (.int .i64 2),fun W v hb hv=>?_,fun h=>absurd h (by decide),fun _=>rfl,fun W hb=>zbu 2 W (hb.ag herr (by simp))⟩
 obtain⟨b,off,cap,rfl,-⟩:=zax hv hn0
 refine (zel b off cap fs.length fs 1 _ ch W hv rfl hk (hr W) lf (by omega) (lch.mono (by omega))).mono ?_
 rintro e w' ⟨hbt,h⟩
 rcases h with ⟨-,he⟩|⟨h2,-⟩
 ·exact⟨he,hbt⟩
 ·exact absurd h1 h2)
 ·(
 obtain rfl:z1=0:=by rw[hz1,if_neg (fun h=>h1 h.2),h0]
 obtain⟨q,hq,q1,q2⟩:∃ q,q<fs.length∧(∀ j,j<q→sgR (atR fs) (j+1)<ch)∧¬ sgR (atR fs) (q+1)<ch:=by
  rcases zjn (fun j=>sgR (atR fs) (j+1)<ch) fs.length with h | h
  ·have:=h (fs.length-1) (by omega)
   rw[show fs.length-1+1=fs.length by omega,hs1] at this
   exact absurd (.inr this) h1
  ·exact h
 refine⟨(q:Int),.nilIface,fun W v hb hv=>?_,fun _ W v x hv hx=>zky v fs (atR fs) ch x q W hv (fun i hi=>zcg fs i hi) hx hn1 (fun i hi=>(zab lf i hi).mono (by omega)) ((uw lch).mono (by omega)) hq q1 q2,fun h=>absurd rfl h,fun W hb=>zoj W⟩
 obtain⟨b,off,cap,rfl,-⟩:=zax hv hn0
 refine (zel b off cap fs.length fs 1 _ ch W hv rfl hk (hr W) lf (by omega) (lch.mono (by omega))).mono ?_
 rintro e w' ⟨hbt,h⟩
 rcases h with ⟨h2,-⟩|⟨-,k,hkn,he,k1,k2⟩
 ·exact absurd h2 h1
 ·rw[zlh fs k (by omega)] at k1
  rw[zlh fs (k+1) (by omega)] at k2
  obtain rfl:=zzj hF hq hkn q1 q2 k1 k2
  exact⟨he,hbt⟩))
 ·obtain rfl:z1=z:=by rw[hz1,if_neg (fun h=>h0 h.1)]
  refine⟨0,.iface 33 (.int .i64 z1),fun W v hb hv=>?_,fun h=>absurd h h0,fun _=>rfl,fun W hb=>zbu z1 W (hb.ag herr (by simp))⟩
  rw[hz]
  exact zla v fs 1 s5 x5 y5 p5 W hv hn lf (by omega) (fun h=>h0 (hz.trans h)))
theorem zus (fs:List Rat) (ch:Rat) (z z2:Int) (s5:Bool) (x5 y5:Int) (p5:Option Addr) (w:World) (hn:fs.length≤1000) (lf:∀ f ∈ fs,Len f 1) (lch:Len ch 1) (hr:∀ W,aq W (.agg #[.bool s5,.int .u64 x5,.int .u64 y5,.pointer p5]) ch) (htab:Lib.TabIs prog w "internal/strconv.uint64pow10" .u64 Lib.pow10Tab) (herr:w.cell? ⟨0,0,none⟩=some (.iface 219 (.agg #[.pointer (some ⟨7,29,none⟩)]))) (hz:z=yc fs) (hz2:z2=if z=0∧(ch<0∨1≤ch) then 2 else z) :
   ∃ (r:Rat) (ev:Value),(∀ W v,But [] w W→au W v fs→Calls prog 47 #[v,.agg #[.bool s5,.int .u64 x5,.int .u64 y5,.pointer p5]] W fun e w'=>∃ t:FZ,e=.returned (.tuple #[.agg #[.bool t.1,.int .u64 t.2.1,.int .u64 t.2.2.1,.pointer t.2.2.2],ev])∧aq w' (.agg #[.bool t.1,.int .u64 t.2.1,.int .u64 t.2.2.1,.pointer t.2.2.2]) r∧But [] W w')
    ∧ (z2=0→∀ W v x,zn W v fs→ze W x ch→Calls prog 48 #[v,.pointer (some ⟨x,0,none⟩)] W fun e w'=>∃ b,e=.returned (.pointer (some ⟨b,0,none⟩))∧ze w' b r∧But [] W w')
    ∧ (∀ W v x,But [] w W→aq W v r→(z2=0→ze W x r)→Calls prog 21 #[v,ev,.pointer (some ⟨x,0,none⟩),.int .i64 z2] W fun e w'=>e=.returned (.bool true)∧But [] W w'):=by(
 by_cases h0:z=0
 ·(
 have hk:yc fs=0:=hz.symm.trans h0
 obtain⟨hn0,hn1,hpos,hone⟩:=zcf hk
 have hF:∀ k,k<fs.length→0≤atR fs k:=fun k h=>zjd hpos k h
 have hs1:sgR (atR fs) fs.length=1:=by rw[zlx] at hone;exact hone
 by_cases h1:ch<0∨1≤ch
 ·(
 obtain rfl:z2=2:=by rw[hz2,if_pos ⟨h0,h1⟩]
 refine⟨0,.iface 33 (.int .i64 2),fun W v hb hv=>?_,fun h=>absurd h (by decide),fun W v x hb hv hx=>zqf 2 v _ W hv (by decide) (TabIs.but htab hb) (hb.ag herr (by simp))⟩
 obtain⟨b,off,cap,rfl,-⟩:=zax hv hn0
 refine (zks b off cap fs.length fs 1 _ ch W hv rfl hk (hr W) lf (by omega) (lch.mono (by omega))).mono ?_
 rintro e w' ⟨hbt,h⟩
 rcases h with ⟨-,he⟩|⟨⟨h2,h3⟩,-⟩
 ·exact⟨(false,0,0,none),he,yw w',hbt⟩
 ·rcases h1 with h1 | h1
  ·grind
  ·grind)
 ·(
 obtain rfl:z2=0:=by rw[hz2,if_neg (fun h=>h1 h.2),h0]
 have c0:0≤ch:=by grind
 have c1:ch<1:=by grind
 obtain⟨q,hq,q1,q2⟩:∃ q,q<fs.length∧(∀ j,j<q→sgR (atR fs) (j+1)≤ch)∧¬ sgR (atR fs) (q+1)≤ch:=by
  rcases zjn (fun j=>sgR (atR fs) (j+1)≤ch) fs.length with h | h
  ·have:=h (fs.length-1) (by omega)
   rw[show fs.length-1+1=fs.length by omega,hs1] at this
   grind
  ·exact h
 obtain⟨g,hg⟩:∃ g:Nat→Rat,g=fun i=>if q<i then ((((i:Int)-(q:Int):Int)):Rat)*atR fs i else 0:=⟨_,rfl⟩
 have hq2:sgR (atR fs) q≤ch:=by
  rcases Nat.eq_zero_or_pos q with e | e
  ·rw[e];exact c0
  ·have:=q1 (q-1) (by omega)
   rw[show q-1+1=q by omega] at this
   exact this
 have hval:=qbo (atR fs) g fs.length q ch hq hF hs1 hq2 (by grind) (fun k h=>by
  rw[hg]
  show (if q<k then ((((k:Int)-(q:Int):Int)):Rat)*atR fs k else 0)=_
  rw[if_pos h,Rat.intCast_sub]
  grind) (fun k h=>by
  rw[hg]
  show (if q<k then ((((k:Int)-(q:Int):Int)):Rat)*atR fs k else 0)=_
  rw[if_neg (by omega)])
 have ed:(oz fs.length 0).map (fun z:Fin fs.length=>z.1)=dnL fs.length fs.length:=by
  have:=zua fs.length fs.length (Nat.le_refl _)
  rw[Nat.sub_self] at this
  exact this
 obtain⟨r,hR⟩:∃ r:Rat,r=((q:Int):Rat)+sgR g fs.length/(((1:Int):Rat)-ch):=⟨_,rfl⟩
 have hd:(((1:Int):Rat)-ch)≠0:=by
  have e1:((1:Int):Rat)=1:=rfl
  rw[e1];grind
 have hwr:(wsf (fun t=>fs[t]?.getD 0) (((1:Int):Rat)-ch) ((oz fs.length 0).map (·.1))).2/(((1:Int):Rat)-ch)=r:=by
  rw[ed,hR]
  have e2:(wsf (fun t=>fs[t]?.getD 0) (((1:Int):Rat)-ch) (dnL fs.length fs.length)).2=((q:Int):Rat)*(((1:Int):Rat)-ch)+sgR g fs.length:=hval
  rw[e2]
  generalize ((1:Int):Rat)-ch=D at hd
  grind
 have ls:zu (sgR g fs.length) 5000:=(gm (F:=g) (c:=4) fs.length (fun i hi=>by
  rw[hg]
  show zu (if q<i then ((((i:Int)-(q:Int):Int)):Rat)*atR fs i else 0) 4
  split
  ·exact ((zu.int (by omega)).mul (zab lf i hi)).mono (by omega)
  ·exact (zu.int (z:=0) (by decide)).mono (by omega))).mono (by
   have:fs.length*(4+1)≤201*5:=Nat.mul_le_mul (by omega) (Nat.le_refl _)
   omega)
 have lr:zu r 10000:=by
  rw[hR]
  refine ((zu.int (z:=(q:Int)) (by omega)).add (ls.qmr ((zu.int (z:=1) (by decide)).sub (uw lch)) (fun h=>hd (Rat.num_eq_zero.1 h)))).mono (by omega)
 refine⟨r,.nilIface,fun W v hb hv=>?_,fun _ W v x hv hx=>?_,fun W v x hb hv hx=>qex v r x W hv (hx rfl) ((zjk lr).mono (by omega)) (TabIs.but htab hb)⟩
 ·(
 obtain⟨b,off,cap,rfl,-⟩:=zax hv hn0
 refine (zks b off cap fs.length fs 1 _ ch W hv rfl hk (hr W) lf (by omega) (lch.mono (by omega))).mono ?_
 rintro e w' ⟨hbt,h⟩
 rcases h with ⟨h2,-⟩|⟨-,s,x,y,p,he,hf⟩
 ·exact absurd ⟨c0,c1⟩ h2
 ·rw[hwr] at hf
  exact⟨(s,x,y,p),he,hf,hbt⟩)
 ·rw[hR,hg]
  exact zpv v fs (atR fs) ch x q W hv (fun i hi=>zcg fs i hi) hx hn1 (fun i hi=>(zab lf i hi).mono (by omega)) ((uw lch).mono (by omega)) hq q1 q2 c1))
 ·(
 obtain rfl:z2=z:=by rw[hz2,if_neg (fun h=>h0 h.1)]
 refine⟨0,.iface 33 (.int .i64 z2),fun W v hb hv=>?_,fun h=>absurd h h0,fun W v x hb hv hx=>zqf z2 v _ W hv (by simpa using h0) (TabIs.but htab hb) (hb.ag herr (by simp))⟩
 rw[hz]
 refine (zqr v fs 1 s5 x5 y5 p5 W hv hn lf (by omega) (fun h=>h0 (hz.trans h))).mono ?_
 rintro e w' ⟨he,hbt⟩
 exact⟨(false,0,0,none),he,yw w',hbt⟩))
theorem ztj (v ev x:Value) (z:Int) (w:World) (h:Calls prog 124 #[v,ev,x,.int .i64 z] w fun e w'=>e=.returned (.bool true)∧But [] w w') :
   Calls prog 53 #[v,ev,x,.int .i64 z] w fun e w'=>e=.returned (.bool true)∧But [] w w':=by(
 have HH:=af h
 clear h
 go_enter func53,ntmps53
 go_wp2_with fail
 refine (ae HH).mono ?_
 rintro e w1 ⟨rfl,hb⟩
 go_wp2
 go_ret
 exact⟨rfl,hb⟩)
theorem qar {fs:List Rat} {a b:Int} (h:zqq fs a b=0):yc fs=0∧0≤a∧a≤200∧0≤b∧b≤200:=by(
 unfold zqq at h
 by_cases h0:zei fs a=0
 ·(
 rw[if_neg (fun h=>h h0)] at h
 unfold zei at h0
 by_cases h1:yc fs=0
 ·(
 rw[if_neg (fun h=>h h1)] at h0
 by_cases h2:a<0∨200<a
 ·rw[if_pos h2] at h0;exact absurd h0 (by decide)
 ·by_cases h3:b<0∨200<b
  ·rw[if_pos h3] at h;exact absurd h (by decide)
  ·exact⟨h1,by omega,by omega,by omega,by omega⟩)
 ·rw[if_pos h1] at h0;exact absurd h0 h1)
 ·rw[if_pos h0] at h;exact absurd h h0)
theorem zwa (fs:List Rat) (a b:Int) (z:Int) (w:World) (hn:fs.length≤1000) (lf:∀ f ∈ fs,Len f 1) (htab:Lib.TabIs prog w "internal/strconv.uint64pow10" .u64 Lib.pow10Tab) (herr:w.cell? ⟨0,0,none⟩=some (.iface 219 (.agg #[.pointer (some ⟨7,29,none⟩)]))) (hz:z=zqq fs a b) :
   ∃ (gl:List Rat) (ev:Value),(∀ W v,But [] w W→au W v fs→Calls prog 51 #[v,.int .i64 a,.int .i64 b] W fun e w'=>∃ v,e=.returned (.tuple #[v,ev])∧zcl w' z gl v∧But [] W w')
    ∧ (z=0→∀ W v,zn W v fs→Calls prog 52 #[v,.int .i64 a,.int .i64 b] W fun e w'=>∃ v,e=.returned v∧zn w' v gl∧But [] W w')
    ∧ (∀ W v x,But [] w W→zcl W z gl v→(z=0→zn W x gl)→Calls prog 53 #[v,ev,x,.int .i64 z] W fun e w'=>e=.returned (.bool true)∧But [] W w'):=by(
 by_cases h0:z=0
 ·(
 obtain⟨hk,a1,a2,b1,b2⟩:=qar (hz.symm.trans h0)
 obtain⟨a,rfl⟩:∃ k:Nat,a=(k:Int):=⟨a.toNat,by omega⟩
 obtain⟨b,rfl⟩:∃ k:Nat,b=(k:Int):=⟨b.toNat,by omega⟩
 obtain⟨hn0,hn1,hpos,hone⟩:=zcf hk
 obtain⟨m,hm,g1,g2⟩:=ztu hk
 have hF:∀ k,k<fs.length→0≤atR fs k:=fun k h=>zjd hpos k h
 have hz0:∀ k,m+1≤k→atR fs k=0:=fun k hk1=>by
  rcases Nat.lt_or_ge k fs.length with h | h
  ·exact Rat.num_eq_zero.1 (g2 k (by omega) h)
  ·unfold atR;rw[List.getElem?_eq_none h];rfl
 have hm0:0<atR fs m:=by
  have h1:=hF m hm
  have h2:atR fs m≠0:=fun h=>g1 (by show (atR fs m).num=0;rw[h];rfl)
  grind
 have eL:vw (atR fs) (wi a b) fs.length=vw (atR fs) (wi a b) (m+1):=by
  have:=zoy (atR fs) (wi a b) (m+1) (fs.length-(m+1)) hz0
  rw[show m+1+(fs.length-(m+1))=fs.length by omega] at this
  exact this
 obtain⟨gl,hgl⟩:∃ gl,gl=(List.range (wi a b m+1)).map (vw (atR fs) (wi a b) fs.length):=⟨_,rfl⟩
 have hwi:∀ j,j≤m→wi a b j≤wi a b m:=fun j hj=>by have:=qmf a b m j hj;omega
 have hwb:wi a b m≤b:=by unfold wi;omega
 have ll:∀ f ∈ gl,Len f 1000000:=fun f hf=>by
  rw[hgl] at hf
  obtain⟨t,-,rfl⟩:=List.mem_map.1 hf
  refine (zjk (zjj (atR fs) (wi a b) 2 fs.length (fun j hj=>zab lf j hj) t)).mono ?_
  have:fs.length*(2+1)≤201*3:=Nat.mul_le_mul (by omega) (Nat.le_refl _)
  omega
 refine⟨gl,.nilIface,fun W v hb hv=>?_,fun _ W v hv=>?_,fun W v x hb hv hx=>?_⟩
 ·(
 obtain⟨bb,off,cap,rfl,hcap⟩:=zax hv hn0
 refine (ztm bb off cap fs.length fs m a b 1 W hv rfl hcap hn1 hm g1 g2 hk (by omega) (by omega) lf (by omega)).mono ?_
 rintro e w' ⟨g,he,hr,hbt⟩
 refine⟨_,he,.inl ⟨h0,?_⟩,hbt⟩
 rw[hgl,eL]
 have:=(hr.congr (G:=vw (atR fs) (wi a b) (m+1)) (fun j _=>by rw[zyd];rfl)).ztw
 exact this)
 ·(
 rw[hgl]
 refine zpx v fs (atR fs) a b (wi a b m) W hv (fun i hi=>zcg fs i hi) hn1 (fun i hi=>(zab lf i hi).mono (by omega)) (by omega) (by omega) hwb ?_ (fun t h1 h2=>?_)
 ·(
 rw[eL]
 have:=qaq (atR fs) (wi a b) m (fun j hj=>hF j (by omega)) hm0
 intro h
 rw[Rat.num_eq_zero.1 h] at this
 exact absurd this (by decide))
 ·rw[eL,zox (atR fs) (wi a b) t (m+1) (fun j hj=>by have:=hwi j (by omega);omega)]
  rfl)
 ·rcases hv with ⟨-,hv⟩|⟨h1,-⟩
  ·rw[h0]
   exact ztj _ _ _ _ W (qhx v x gl W hv (hx h0) ll (by rw[hgl];simp;omega) (TabIs.but htab hb))
  ·exact absurd h0 h1)
 ·(
 refine⟨[],.iface 33 (.int .i64 z),fun W v hb hv=>?_,fun h=>absurd h h0,fun W v x hb hv hx=>?_⟩
 ·(
 have h1:=zqs v fs 1 a b W hv hn lf (by omega) (fun h=>h0 (hz.trans h))
 rw[← hz] at h1
 refine h1.mono ?_
 rintro e w' ⟨he,hbt⟩
 exact⟨_,he,.inr ⟨h0,rfl⟩,hbt⟩)
 ·rcases hv with ⟨h1,-⟩|⟨-,rfl⟩
  ·exact absurd h1 h0
  ·exact ztj _ _ _ _ W (qfe z none 0 x W (by simpa using h0) (hb.ag herr (by simp)))))
theorem zof (v:Value) (qs:List (Int × Int)) (u5 v5 fo wd5:Int) (w:World) (hv:zuo w v qs) (hf:∀ q ∈ qs,Fits q) (hr:Fits (u5,v5)) (hfo:-9223372036854775808≤fo∧fo<9223372036854775808) (hwd:-9223372036854775808≤wd5∧wd5<9223372036854775808) (htab:Lib.TabIs prog w "internal/strconv.uint64pow10" .u64 Lib.pow10Tab) (herr:w.cell? ⟨0,0,none⟩=some (.iface 219 (.agg #[.pointer (some ⟨7,29,none⟩)]))) :
   Calls prog 7 #[v,.agg #[.int .i64 u5,.int .i64 v5],.int .i64 fo,.int .i64 wd5] w fun e w'=>e=.returned (.bool true)∧But [] w w':=by(
 obtain⟨a,cap,rfl,-,-⟩:=id hv
 by_cases hg:60<qs.length∧qs.length≤201∨230<qs.length
 ·exact qcm a qs.length cap fo wd5 u5 v5 w hg
 have hg1:qs.length≤60∨201<qs.length∧qs.length≤230:=by omega
 obtain⟨fs,hfs⟩:∃ fs,fs=qs.map qf:=⟨_,rfl⟩
 have hln:fs.length=qs.length:=by rw[hfs];simp
 have hn:fs.length≤1000:=by omega
 have lf:=qav hf
 rw[← hfs] at lf
 obtain⟨s5,x5,y5,lr,hfr,hpf⟩:=zjb (u5,v5) hr
 obtain⟨ch,hch⟩:∃ ch,ch=qf (u5,v5):=⟨_,rfl⟩
 rw[← hch] at lr hfr
 obtain⟨z,hz⟩:∃ z,z=yc fs:=⟨_,rfl⟩
 obtain⟨sg,hsg⟩:∃ s,s=ch.num.sign:=⟨_,rfl⟩
 have hs0:(sg≤0↔ch≤0)∧(sg<0↔ch<0):=by
  have h1:ch≤0↔ch.num≤0:=by
   rw[Rat.le_iff]
   simp
  have h2:ch<0↔ch.num<0:=by
   rw[Rat.lt_iff]
   simp
  rw[h1,h2,hsg]
  rcases Int.lt_trichotomy ch.num 0 with h | h | h
  ·rw[Int.sign_eq_neg_one_of_neg h];omega
  ·rw[h];decide
  ·rw[Int.sign_eq_one_of_pos h];omega
 obtain⟨cc,hcc⟩:∃ c:Int,c=yu (ch.num*((((1:Int):Rat).den:Nat):Int)) (((1:Int):Rat).num*(ch.den:Int)):=⟨_,rfl⟩
 obtain⟨hcu,hcd⟩:=qbc ch ((1:Int):Rat)
 rw[← hcc] at hcu hcd
 have e1:((1:Int):Rat)=1:=rfl
 rw[e1] at hcu hcd
 obtain⟨z1,hz1⟩:∃ y,y=if z=0∧(ch≤0∨1<ch) then 2 else z:=⟨_,rfl⟩
 obtain⟨z2,hz2⟩:∃ y,y=if z=0∧(ch<0∨1≤ch) then 2 else z:=⟨_,rfl⟩
 obtain⟨z3,hz3⟩:∃ y,y=zei fs fo:=⟨_,rfl⟩
 obtain⟨z4,hz4⟩:∃ y,y=zqq fs fo wd5:=⟨_,rfl⟩
 have hk1:∀ {y:Int},yc fs=0→fs.length≤201:=fun {y} h=>(zcf h).2.1
 have hal:z=0→∀ i,i<fs.length→zu (atR fs i) 200:=fun _ i hi=>(zab lf i hi).mono (by omega)
 obtain⟨fm,ME,RM,ON1⟩:=ziq fs z (l9 fs (fun k=>(k:Int)) fs.length) 2000 (by omega) 39 41 [] w htab herr (fun W v hb h=>by rw[hz];exact ztl v fs 1 W h hn lf (by omega)) (fun h0=>by
  have h1:=hk1 (y:=0) (hz.symm.trans h0)
  rw[zhv]
  refine⟨(gm (c:=4) fs.length (fun i hi=>((zu.int (by omega)).mul (zab lf i hi)).mono (by omega))).mono ?_,fun W v h=>zez v fs (atR fs) W h (fun i hi=>zcg fs i hi) h1 (hal h0)⟩
  have:fs.length*(4+1)≤201*5:=Nat.mul_le_mul (by omega) (Nat.le_refl _)
  omega)
 obtain⟨fv,VA,RV,ON2⟩:=ziq fs z (qha fs) 10000 (by omega) 40 42 [] w htab herr (fun W v hb h=>by rw[hz];exact zwb v fs 1 W h hn lf (by omega)) (fun h0=>by
  have h1:=hk1 (y:=0) (hz.symm.trans h0)
  unfold qha
  rw[zhv,zhv]
  have l1:zu (sgR (fun i=>(((i:Nat):Int):Rat)*atR fs i) fs.length) 2000:=(gm (c:=4) fs.length (fun i hi=>((zu.int (by omega)).mul (zab lf i hi)).mono (by omega))).mono (by
   have:fs.length*(4+1)≤201*5:=Nat.mul_le_mul (by omega) (Nat.le_refl _)
   omega)
  have l2:zu (sgR (fun i=>(((i*i:Nat):Int):Rat)*atR fs i) fs.length) 2000:=(gm (c:=4) fs.length (fun i hi=>((zu.int (by
   have:i*i≤201*201:=Nat.mul_le_mul (by omega) (by omega)
   omega)).mul (zab lf i hi)).mono (by omega))).mono (by
   have:fs.length*(4+1)≤201*5:=Nat.mul_le_mul (by omega) (Nat.le_refl _)
   omega)
  exact⟨(l2.sub (l1.mul l1)).mono (by omega),fun W v h=>znp v fs (atR fs) W h (fun i hi=>zcg fs i hi) h1 (hal h0)⟩)
 obtain⟨kq,evQ,QU,RQ,BK,TQ⟩:=zvp fs ch z z1 s5 x5 y5 none w hn lf lr hfr htab herr hz hz1
 obtain⟨fw,evW,WO,RW,ON3⟩:=zus fs ch z z2 s5 x5 y5 none w hn lf lr hfr htab herr hz hz2
 obtain⟨fst,SO,RS,ON4⟩:=ziq fs z3 (l9 fs (fun k=>max ((k:Int)-fo) 0) fs.length) 2000 (by omega) 49 50 [.int .i64 fo] w htab herr (fun W v hb h=>by rw[hz3];exact ztk v fs 1 fo W h hn lf (by omega)) (fun h0=>by
  have h2:yc fs=0∧0≤fo∧fo≤200:=by
   rw[hz3] at h0
   unfold zei at h0
   by_cases h1:yc fs=0
   ·rw[if_neg (fun h=>h h1)] at h0
    by_cases h2:fo<0∨200<fo
    ·rw[if_pos h2] at h0;exact absurd h0 (by decide)
    ·exact⟨h1,by omega,by omega⟩
   ·rw[if_pos h1] at h0;exact absurd h0 h1
  obtain⟨h2,a1,a2⟩:=h2
  have h1:=hk1 (y:=0) h2
  obtain⟨k,rfl⟩:∃ k:Nat,fo=(k:Int):=⟨fo.toNat,by omega⟩
  rw[qcg]
  refine⟨(gm (c:=4) fs.length (fun i hi=>by
   show zu (if k<i then ((((i:Int)-(k:Int):Int)):Rat)*atR fs i else 0) 4
   split
   ·exact ((zu.int (by omega)).mul (zab lf i hi)).mono (by omega)
   ·exact (zu.int (z:=0) (by decide)).mono (by omega))).mono ?_,fun W v h=>zey v fs (atR fs) k W h (fun i hi=>zcg fs i hi) h1 (fun i hi=>(zab lf i hi).mono (by omega)) (by omega)⟩
  have:fs.length*(4+1)≤201*5:=Nat.mul_le_mul (by omega) (Nat.le_refl _)
  omega)
 obtain⟨gl,evL,LA,RL,LW⟩:=zwa fs fo wd5 z4 w hn lf htab herr hz4
 have zz:∀ z:Int,z=0∨(z==0)=false:=fun z=>by
  by_cases h:z=0
  ·exact .inl h
  ·exact .inr (by simpa using h)
 refine qhi a qs.length cap fs z hg1 (zz z) fo wd5 u5 v5 sg cc kq ch s5 x5 y5 none (zcm z) evQ evW (zcm z3) evL fm fv fw fst gl z1 z2 z3 z4 ?_ ?_ ?_ ?_ w (fun W hb=>?_) (fun W hb=>?_) (fun W v h=>?_) ME VA (fun W=>ui 0 W (by omega) (by omega)) RM RV (fun W v hb h=>?_) (fun W hb=>?_) ON1 ON2 (fun W=>?_) (fun W x hx=>?_) (fun W=>ui 1 W (by omega) (by omega)) (fun W x y hx hy=>?_) hpf QU RQ BK TQ WO RW ON3 SO RS ON4 LA RL LW
 ·rw[hz1];simp only[hs0.1,hcu]
 ·rw[hz2];simp only[hs0.2,hcd]
 ·(
 rw[hz3,hz]
 unfold zei
 by_cases h1:yc fs=0
 ·rw[if_neg (fun h=>h h1)]
  simp[h1]
 ·rw[if_pos h1,if_neg (fun h=>h1 h.1)])
 ·(
 rw[hz4,hz3]
 unfold zqq
 by_cases h1:zei fs fo=0
 ·rw[if_neg (fun h=>h h1)]
  simp[h1]
 ·rw[if_pos h1,if_neg (fun h=>h1 h.1)])
 ·rw[hfs]
  exact (zsj _ qs W (hv.but hb) hf (by omega)).mono fun e w' ⟨v',us,he,ho,hbt⟩=>⟨v',he,ho.qlo,hbt⟩
 ·rw[hfs];exact zqc _ qs W (hv.but hb) hf (by omega)
 ·rw[hz];exact zvm v fs W 1 h hn lf (by omega)
 ·rw[hz];exact jm v fs 1 W h hn lf (by omega)
 ·(
 by_cases h0:z=0
 ·have e0:zcm z=.nilIface:=by unfold zcm;rw[if_pos h0]
  rw[e0,h0]
  exact zoj W
 ·have e0:zcm z=.iface 33 (.int .i64 z):=by unfold zcm;rw[if_neg h0]
  rw[e0]
  exact zbu z W (hb.ag herr (by simp)))
 ·obtain⟨g1,g2,g3,g4⟩:=hr
  rw[hch]
  exact qln u5 v5 _ W g1 g2 g3 g4 (zsr (u5,v5) ⟨g1,g2,g3,g4⟩)
 ·exact zmh x ch W hx sg hsg ((uw lr).mono (by omega))
 ·rw[hcc]
  exact qho x y _ _ W hx hy ((uw lr).mono (by omega)) ((zu.int (by decide)).mono (by omega)))
end Go.Proofs.YtagmkkiagjmimaaGreatDoor
