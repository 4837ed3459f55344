/- The parts of ClaimsSum, both sides.  -/
import Derived.Test.YtpmjeclpkahkmaaGreatDoorVCSi
namespace Go.Proofs.YtpmjeclpkahkmaaGreatDoor
open Go.Proofs.Tryz
open Go.RowKit
set_option maxHeartbeats 8000000
set_option maxRecDepth 100000
set_option linter.unusedVariables false
theorem zpv (v ev x:Value) (z:Int) (w:World) (h:Calls prog 52 #[v,ev,x,.int .i64 z] w fun e w'=>e=.returned (.bool true)∧But [] w w') :
  Calls prog 22 #[v,ev,x,.int .i64 z] w fun e w'=>e=.returned (.bool true)∧But [] w w':=by(
have HH:=af h
clear h
go_enter func22,ntmps22
go_wp2_with fail
refine (ae HH).mono ?_
rintro e w1 ⟨rfl,hb⟩
go_wp2
go_ret
exact⟨rfl,hb⟩)
theorem zwt {f:Rat} {n:Nat} (h:jc f n):Len f n:=by(
have e:∀ m:Nat,(wd 4294967296 m).length≤n→(wd 18446744073709551616 m).length≤n:=fun m hm=>by
 refine aj (by omega) m n (Nat.lt_of_lt_of_le (ak (by omega) m n hm) (Nat.pow_le_pow_left (by omega) n))
exact⟨e _ h.1,e _ h.2⟩)
theorem kw {w:World} {v:Value} {fs:List Rat} (h:au w v fs) (h0:0<fs.length):∃ b off cap,v=.slice (some ⟨b,off,none⟩) fs.length cap∧fs.length≤cap:=by(
obtain⟨a,cap,e,hc,h⟩:=h
obtain⟨b,off,rfl,-⟩:=h 0 _ (List.getElem?_eq_getElem h0)
exact⟨b,off,cap,e,hc⟩)
theorem zis (z:Int) (gl:List Rat) (w:World) (htab:Lib.TabIs prog w "internal/strconv.uint64pow10" .u64 Lib.pow10Tab) (herr:w.cell? ⟨0,0,none⟩=some (.iface 282 (.agg #[.pointer (some ⟨10,29,none⟩)]))) (ll:∀ f ∈ gl,Len f 1000000) (hn:gl.length≤1000):∀ W v x,But [] w W→jb W z gl v→(z=0→za W x gl)→Calls prog 22 #[v,(ig z),x,.int .i64 z] W fun e w'=>e=.returned (.bool true)∧But [] W w':=fun W v x hb hv hx=>by
 rcases hv with ⟨h0,hv⟩|⟨h0,rfl⟩
 ·have e0:ig z=.nilIface:=by unfold ig;rw[if_pos h0]
  rw[e0,h0]
  exact zpv _ _ _ _ W (qiy v x gl W hv (hx h0) ll hn (TabIs.but htab hb))
 ·have e0:ig z=.iface 33 (.int .i64 z):=by unfold ig;rw[if_neg h0]
  rw[e0]
  exact zpv _ _ _ _ W (qfu z none 0 x W (by simpa using h0) (hb.ag herr (by simp)))
theorem zgs (gl:List Rat) (w:World) (htab:Lib.TabIs prog w "internal/strconv.uint64pow10" .u64 Lib.pow10Tab) (herr:w.cell? ⟨0,0,none⟩=some (.iface 282 (.agg #[.pointer (some ⟨10,29,none⟩)]))) (ll:∀ f ∈ gl,Len f 1000000) (hn:gl.length≤1000):∀ W v x,But [] w W→jb W 0 gl v→(0=0→za W x gl)→Calls prog 22 #[v,.nilIface,x,.int .i64 0] W fun e w'=>e=.returned (.bool true)∧But [] W w':=fun W v x hb hv hx=>zis 0 gl w htab herr ll hn W v x hb hv (fun _=>hx rfl)
theorem zpw (w:World) (htab:Lib.TabIs prog w "internal/strconv.uint64pow10" .u64 Lib.pow10Tab) (herr:w.cell? ⟨0,0,none⟩=some (.iface 282 (.agg #[.pointer (some ⟨10,29,none⟩)]))):∀ W v x,But [] w W→jb W 4 [] v→(4=0→za W x [])→Calls prog 22 #[v,(ig 4),x,.int .i64 4] W fun e w'=>e=.returned (.bool true)∧But [] W w':=fun W v x hb hv hx=>zis 4 [] w htab herr (fun f hf=>by simp at hf) (by simp) W v x hb hv (fun h=>absurd h (by decide))
theorem zfz {z:Int} (h:z≠0):ig z=.iface 33 (.int .i64 z):=by unfold ig;rw[if_neg h]
theorem zyt {fs:List Rat} (h:jo fs=0):∃ m,m<fs.length∧kg (lf fs) m∧(fs[m]?.getD 0).num≠0∧∀ j,m<j→j<fs.length→(fs[j]?.getD 0).num=0:=by(
obtain⟨hn0,hn1,hpos,hone⟩:=zcv h
obtain⟨m,hm,g1,g2⟩:=zum h
have nn:∀ k,0≤lf fs k:=fun k=>by
 rcases Nat.lt_or_ge k fs.length with h | h
 ·exact qbg hpos k h
 ·rw[ru fs k h];exact Rat.le_refl
refine⟨m,hm,⟨nn,?_,fun k hk=>?_⟩,g1,g2⟩
·have h1:=nn m
 have h2:lf fs m≠0:=fun h=>g1 (by show (lf fs m).num=0;rw[h];rfl)
 grind
·rcases Nat.lt_or_ge k fs.length with h | h
 ·exact Rat.num_eq_zero.1 (g2 k hk h)
 ·exact ru fs k h)
theorem zty {fs:List Rat} {m:Nat} (hm:m<fs.length) (r:kg (lf fs) m) (ln:∀ f ∈ fs,Len f 1) (pf:∀ f ∈ fs,0≤f):Over (lf fs) (((qh 1 (fs.take (m+1)):Nat):Int):Rat) (m+3) (m+2):=by(
have hk1:(fs.take (m+1)).length=m+1:=by rw[List.length_take];omega
obtain⟨u1,u2,u3,u4,u5⟩:=zcb (fs.take (m+1)) 1 (m+1) (fun f hf=>pf f (List.mem_of_mem_take hf)) (fun f hf=>ln f (List.mem_of_mem_take hf)) (by omega)
refine⟨fun k=>?_,?_,Rat.intCast_pos.2 (by omega)⟩
·have h:=u4 k
 rw[zgk fs m hm r.far k,Rat.mul_comm] at h
 rw[show m+3=1+(1+(m+1)*1) by omega]
 exact h
·rw[show m+2=1+(m+1)*1 by omega];exact u5)
theorem zpe (F:Nat→Rat) (M:Nat) (r:kg F M) (hM:M≤900) (lF:∀ k,jc (F k) 1000000) (W:World) (v:Value) (h:za W v ((List.range (M+1)).map F)) :
  Calls prog 20 #[v] W fun e w'=>∃ v',e=.returned v'∧za w' v' ((List.range (M+1)).map F)∧But [] W w':=by(
have hh:=wu v _ F M W h (fun i hi=>by
 have hi2:i<M+1:=by simpa using hi
 rw[List.getElem?_map,List.getElem?_range hi2,Option.map_some]) (by simp;omega) (fun i _=>lF i) (by simp) (.inr (fun h=>by have:=r.top;rw[Rat.num_eq_zero.1 h] at this;exact absurd this (by decide))) (fun j h _=>by rw[r.far j h];rfl)
rw[List.take_of_length_le (by simp)] at hh
exact hh)
theorem zhy (F:Nat→Rat) (n:Nat) (lF:∀ k,jc (F k) 1000000):∀ f ∈ (List.range n).map F,Len f 1000000:=fun f hf=>by
 obtain⟨i,-,rfl⟩:=List.mem_map.1 hf
 exact zwt (lF i)
theorem qgg (s:Nat→Rat) (n i:Nat):hor (lf (fo n)) s n n i=pw s n i:=by(
rw[qgf _ _ _ n (Nat.le_refl _)]
have hc:∀ k,k≤n→lf (fo n) k=if k=n then ((1:Int):Rat) else 0:=fun k hk=>by
 unfold fo
 rw[zfw _ _ _ (by omega)]
 rfl
have hz:∀ j,j≤n→us (fun k=>lf (fo n) (n-n+k)*pw s k i) j=0:=fun j=>by
 induction j with
 | zero=>exact fun _=>rfl
 | succ j ih =>
  intro hj
  show us _ j+lf (fo n) (n-n+j)*pw s j i=0
  rw[ih (by omega),hc (n-n+j) (by omega),if_neg (by omega)]
  grind
show us _ n+lf (fo n) (n-n+n)*pw s n i=_
rw[hz n (Nat.le_refl _),hc (n-n+n) (by omega),if_pos (by omega)]
show (0:Rat)+1*pw s n i=pw s n i
grind)
theorem zvn (fs:List Rat) (m n:Nat) (mx:Int) (w:World) (hck:jo fs=0) (hm:m<fs.length) (r:kg (lf fs) m) (g1:(fs[m]?.getD 0).num≠0) (g2:∀ j,m<j→j<fs.length→(fs[j]?.getD 0).num=0) (ln:∀ f ∈ fs,Len f 1) (hn:n≤200) (hnm:n*m≤200) (hnl:n*fs.length≤80) (htab:Lib.TabIs prog w "internal/strconv.uint64pow10" .u64 Lib.pow10Tab) (herr:w.cell? ⟨0,0,none⟩=some (.iface 282 (.agg #[.pointer (some ⟨10,29,none⟩)]))) (hmx:w.cell? ⟨5,0,none⟩=some (.int .i64 mx)) :
  ∀ W va,But [] w W→au W va fs→Calls prog 25 #[va,.int .i64 (n:Int)] W fun e w'=>∃ v,e=.returned (.tuple #[v,.nilIface])∧jb w' 0 ((List.range (n*m+1)).map (pw (lf fs) n)) v∧But [] W w':=fun W va hb hv=>by
 obtain⟨hn0,hn1,hpos,hone⟩:=zcv hck
 obtain⟨b,off,cap,rfl,hcap⟩:=kw hv hn0
 have hk1:(fs.take (m+1)).length=m+1:=by rw[List.length_take];omega
 obtain⟨u1,u2,u3,u4,u5⟩:=zcb (fs.take (m+1)) 1 (m+1) (fun f hf=>hpos f (List.mem_of_mem_take hf)) (fun f hf=>ln f (List.mem_of_mem_take hf)) (by omega)
 have wn1:(bh (fs.take (m+1))).length=m+1:=by unfold bh;simp[hk1]
 obtain⟨U,hU⟩:∃ U,U=(((qh 1 (fs.take (m+1)):Nat):Int):Rat):=⟨_,rfl⟩
 have up1:0<U:=by rw[hU];exact Rat.intCast_pos.2 (by omega)
 have hf1:1≤fs.length:=hn0
 have hnm1:n*(m+1)≤80:=Nat.le_trans (Nat.mul_le_mul_left n (by omega)) hnl
 have hn80:n≤80:=by
  have:n*1≤n*(m+1):=Nat.mul_le_mul_left n (by omega)
  omega
 have hcert:∀ k,isN (lf (fo n) k) (18446744073709551616^1):=fun k=>by
  rcases Nat.lt_or_ge k (n+1) with h | h
  ·unfold fo
   rw[zfw _ _ _ h]
   unfold zda
   split
   ·exact zdl _ (by decide)
   ·exact zah _
  ·rw[ru _ _ (by unfold fo;simpa using h)];exact zah _
 have hrp:∀ t,isN (qy U t) (18446744073709551616^(t*(m+2))):=fun t=>by
  induction t with
  | zero=>rw[Nat.zero_mul];exact zdl _ (by simp)
  | succ t ih =>
   rw[Nat.succ_mul,Nat.pow_add]
   refine ih.mul ?_
   rw[hU,show m+2=1+(m+1)*1 by omega];exact u5
 have hcl:=zee (fo n) (bh (fs.take (m+1))) U m wn1
 have hL:∀ t,t<n+1→(bi (fo n) (bh (fs.take (m+1))) U t).length≤300∧(∀ f ∈ bi (fo n) (bh (fs.take (m+1))) U t,Len f 500)∧Len (qy U t) 1000:=fun t ht=>by
  have htm:t*m≤n*m:=Nat.mul_le_mul_right m (by omega)
  have htm1:t*(m+1)≤n*(m+1):=Nat.mul_le_mul_right _ (by omega)
  have e4:t*(m+3+1)=t*(m+1)+t*3:=by rw[← Nat.mul_add]
  have e2:t*(m+2)=t*(m+1)+t*1:=by rw[← Nat.mul_add]
  refine⟨by rw[hcl];omega,fun f hf=>?_,(zes (hrp t)).mono (by omega)⟩
  obtain⟨i,hi,rfl⟩:=List.mem_iff_getElem.1 hf
  have h:=zhj (fo n) (bh (fs.take (m+1))) U m 1 (m+3) (m+2) wn1 hcert (fun k=>by rw[show m+3=1+(1+(m+1)*1) by omega];exact u4 k) (by rw[hU,show m+2=1+(m+1)*1 by omega];exact u5) (by omega) (by omega) t (by omega) i
  have e5:lf (bi (fo n) (bh (fs.take (m+1))) U t) i=(bi (fo n) (bh (fs.take (m+1))) U t)[i]:=by
   unfold lf;rw[List.getElem?_eq_getElem hi];rfl
  rw[e5] at h
  exact (zes h).mono (by omega)
 have h:=ztz b off cap fs.length fs m n 1 mx W hv rfl hcap hn1 hm g1 g2 hck hn hnm ln (by omega) (TabIs.but htab hb) (hb.ag hmx (by simp)) u1 (u2.mono (by omega)) (fun f hf=>(u3 f hf).mono (by omega)) (by rw[← hU];exact hL)
 rw[← hU] at h
 have hT:(zao (fs.take (m+1)) n).length=n*m+1:=by unfold zao;rw[← hU];exact hcl n
 rw[hT] at h
 refine h.mono ?_
 rintro e w' ⟨g,he,hr,hbt⟩
 refine⟨_,he,.inl ⟨rfl,?_⟩,hbt⟩
 have hx:=hr.zcq
 have e2:(List.range (n*m+1)).map (fun i=>(zao (fs.take (m+1)) n)[i]?.getD 0/(qy U n*((1:Int):Rat)))=(List.range (n*m+1)).map (pw (lf fs) n):=by
  refine List.map_congr_left (fun i hi=>?_)
  have e3:=zki (lf (fo n)) (lf fs) (fo n) (bh (fs.take (m+1))) ((1:Int):Rat) U n m (by unfold fo;simp) wn1 (fun i _=>by show _=(1:Rat)*_;grind) (fun i=>by rw[hU];exact zgk fs m hm r.far i) n (Nat.le_refl _) i
  have e4:(zao (fs.take (m+1)) n)[i]?.getD 0=lf (bi (fo n) (bh (fs.take (m+1))) U n) i:=by unfold zao;rw[← hU];rfl
  rw[e4,e3,qgg]
  have hp:qy U n≠0:=by
   have:∀ k,0<qy U k:=fun k=>by
    induction k with
    | zero=>show (0:Rat)<1;decide
    | succ k ih=>exact Rat.mul_pos ih up1
   have:=this n
   grind
  have e6:((1:Int):Rat)=1:=rfl
  rw[e6,Rat.one_mul,Rat.mul_one,Rat.mul_comm]
  exact Rat.mul_div_cancel hp
 rw[e2] at hx
 exact hx
theorem qcd (fs gs:List Rat) (m q:Nat) (mx:Int) (w:World) (hck:fw fs gs=0) (hfx:jo fs=0) (hgx:jo gs=0) (hm:m<fs.length) (r:kg (lf fs) m) (g1:(fs[m]?.getD 0).num≠0) (g2:∀ j,m<j→j<fs.length→(fs[j]?.getD 0).num=0) (hq:q<gs.length) (rq:kg (lf gs) q) (k1:(gs[q]?.getD 0).num≠0) (k2:∀ j,q<j→j<gs.length→(gs[j]?.getD 0).num=0) (ln:∀ f ∈ fs,Len f 1) (lg:∀ f ∈ gs,Len f 1) (hm40:m≤40) (hq40:q≤40) (hmq:m*q≤200) (htab:Lib.TabIs prog w "internal/strconv.uint64pow10" .u64 Lib.pow10Tab) (herr:w.cell? ⟨0,0,none⟩=some (.iface 282 (.agg #[.pointer (some ⟨10,29,none⟩)]))) (hmx:w.cell? ⟨5,0,none⟩=some (.int .i64 mx)) :
  ∀ W va vb,But [] w W→au W va fs→au W vb gs→Calls prog 23 #[va,vb] W fun e w'=>∃ v,e=.returned (.tuple #[v,.nilIface])∧jb w' 0 ((List.range (m*q+1)).map (hor (lf fs) (lf gs) m m)) v∧But [] W w':=fun W va vb hb hv hv2=>by
 obtain⟨hn0,hn1,hpos,hone⟩:=zcv hfx
 obtain⟨hp0,hp1,hposg,honeg⟩:=zcv hgx
 obtain⟨b,off,cap,rfl,hcap⟩:=kw hv hn0
 obtain⟨b2,off2,cap2,rfl,hcap2⟩:=kw hv2 hp0
 have hk1:(fs.take (m+1)).length=m+1:=by rw[List.length_take];omega
 have hk2:(gs.take (q+1)).length=q+1:=by rw[List.length_take];omega
 obtain⟨u1,u2,u3,u4,u5⟩:=zcb (fs.take (m+1)) 1 (m+1) (fun f hf=>hpos f (List.mem_of_mem_take hf)) (fun f hf=>ln f (List.mem_of_mem_take hf)) (by omega)
 obtain⟨t1,t2,t3,t4,t5⟩:=zcb (gs.take (q+1)) 1 (q+1) (fun f hf=>hposg f (List.mem_of_mem_take hf)) (fun f hf=>lg f (List.mem_of_mem_take hf)) (by omega)
 have wn1:(bh (fs.take (m+1))).length=m+1:=by unfold bh;simp[hk1]
 have wn2:(bh (gs.take (q+1))).length=q+1:=by unfold bh;simp[hk2]
 obtain⟨U,hU⟩:∃ U,U=(((qh 1 (fs.take (m+1)):Nat):Int):Rat):=⟨_,rfl⟩
 obtain⟨V,hV⟩:∃ V,V=(((qh 1 (gs.take (q+1)):Nat):Int):Rat):=⟨_,rfl⟩
 have up1:0<U:=by rw[hU];exact Rat.intCast_pos.2 (by omega)
 have up2:0<V:=by rw[hV];exact Rat.intCast_pos.2 (by omega)
 have hrp:∀ t,isN (qy V t) (18446744073709551616^(t*(q+2))):=fun t=>by
  induction t with
  | zero=>rw[Nat.zero_mul];exact zdl _ (by simp)
  | succ t ih =>
   rw[Nat.succ_mul,Nat.pow_add]
   refine ih.mul ?_
   rw[hV,show q+2=1+(q+1)*1 by omega];exact t5
 have hcl:=zee (bh (fs.take (m+1))) (bh (gs.take (q+1))) V q wn2
 have hL:∀ t,t<m+1→(bi (bh (fs.take (m+1))) (bh (gs.take (q+1))) V t).length≤300∧(∀ f ∈ bi (bh (fs.take (m+1))) (bh (gs.take (q+1))) V t,Len f 500)∧Len (qy V t) 1000:=fun t ht=>by
  have htm:t*q≤m*q:=Nat.mul_le_mul_right q (by omega)
  have e4:t*(q+3+1)=t*q+t*4:=by rw[show q+3+1=q+4 from rfl,Nat.mul_add]
  have e2:t*(q+2)=t*q+t*2:=Nat.mul_add _ _ _
  refine⟨by rw[hcl];omega,fun f hf=>?_,(zes (hrp t)).mono (by omega)⟩
  obtain⟨i,hi,rfl⟩:=List.mem_iff_getElem.1 hf
  have h:=zhj (bh (fs.take (m+1))) (bh (gs.take (q+1))) V q (m+3) (q+3) (q+2) wn2 (fun k=>by rw[show m+3=1+(1+(m+1)*1) by omega];exact u4 k) (fun k=>by rw[show q+3=1+(1+(q+1)*1) by omega];exact t4 k) (by rw[hV,show q+2=1+(q+1)*1 by omega];exact t5) (by omega) (by omega) t (by omega) i
  have e5:lf (bi (bh (fs.take (m+1))) (bh (gs.take (q+1))) V t) i=(bi (bh (fs.take (m+1))) (bh (gs.take (q+1))) V t)[i]:=by
   unfold lf;rw[List.getElem?_eq_getElem hi];rfl
  rw[e5] at h
  exact (zes h).mono (by omega)
 have h:=zuy b off cap fs.length b2 off2 cap2 gs.length fs gs m q 1 mx W hv rfl hcap hn1 hm g1 g2 hv2 rfl hcap2 hp1 hq k1 k2 hck hmq ln lg (by omega) (TabIs.but htab hb) (hb.ag hmx (by simp)) t1 u1 (t2.mono (by omega)) (u2.mono (by omega)) (fun f hf=>(t3 f hf).mono (by omega)) (fun f hf=>(u3 f hf).mono (by omega)) (by rw[← hV];exact hL)
 rw[← hV,← hU,hcl] at h
 refine h.mono ?_
 rintro e w' ⟨g,he,hr,hbt⟩
 refine⟨_,he,.inl ⟨rfl,?_⟩,hbt⟩
 have hx:=hr.zcq
 have e2:(List.range (m*q+1)).map (fun i=>(bi (bh (fs.take (m+1))) (bh (gs.take (q+1))) V m)[i]?.getD 0/(qy V m*U))=(List.range (m*q+1)).map (hor (lf fs) (lf gs) m m):=by
  refine List.map_congr_left (fun i hi=>?_)
  have e3:=zki (lf fs) (lf gs) (bh (fs.take (m+1))) (bh (gs.take (q+1))) U V m q wn1 wn2 (fun i _=>by rw[hU];exact zgk fs m hm r.far i) (fun i=>by rw[hV];exact zgk gs q hq rq.far i) m (Nat.le_refl _) i
  show lf (bi (bh (fs.take (m+1))) (bh (gs.take (q+1))) V m) i/(qy V m*U)=_
  rw[e3]
  have hp:qy V m*U≠0:=by
   have:∀ k,0<qy V k:=fun k=>by
    induction k with
    | zero=>show (0:Rat)<1;decide
    | succ k ih=>exact Rat.mul_pos ih up2
   have:=Rat.mul_pos (this m) up1
   grind
  rw[Rat.mul_comm U,Rat.mul_comm (qy V m*U)]
  exact Rat.mul_div_cancel hp
 rw[e2] at hx
 exact hx
theorem zpa (va vb:Value) (qa qb:List (Int × Int)) (n:Int) (mx:Int) (w:World) (hva:zsd w va qa) (hfa:∀ q ∈ qa,Fits q) (hvb:zsd w vb qb) (hfb:∀ q ∈ qb,Fits q) (htab:Lib.TabIs prog w "internal/strconv.uint64pow10" .u64 Lib.pow10Tab) (herr:w.cell? ⟨0,0,none⟩=some (.iface 282 (.agg #[.pointer (some ⟨10,29,none⟩)]))) (hmx:w.cell? ⟨5,0,none⟩=some (.int .i64 mx)) :
  Calls prog 4 #[va,vb,.int .i64 n] w fun e w'=>e=.returned (.bool true)∧But [] w w':=by(
obtain⟨aa,ca,rfl,-,-⟩:=id hva
obtain⟨ab,cb,rfl,-,-⟩:=id hvb
by_cases hg:(40<qa.length∧qa.length≤201)∨(40<qb.length∧qb.length≤201)∨230<qa.length∨230<qb.length
·exact qda aa ab qa.length ca qb.length cb n w hg
have hga:qa.length≤40∨201<qa.length∧qa.length≤230:=by omega
have hgb:qb.length≤40∨201<qb.length∧qb.length≤230:=by omega
clear hg
obtain⟨fs,hfs⟩:∃ fs,fs=qa.map qf:=⟨_,rfl⟩
obtain⟨gs,hgs⟩:∃ gs,gs=qb.map qf:=⟨_,rfl⟩
have hla:fs.length=qa.length:=by rw[hfs];simp
have hlb:gs.length=qb.length:=by rw[hgs];simp
have ln:=zpz hfa
have lg:=zpz hfb
rw[← hfs] at ln
rw[← hgs] at lg
have hn:fs.length≤1000:=by omega
have hm:gs.length≤1000:=by omega
have LIA:∀ W,But [] w W→Calls prog 16 #[.slice aa qa.length ca] W fun e w'=>∃ v,e=.returned v∧za w' v fs∧But [] W w':=fun W hb=>by
 rw[hfs]
 exact (zkr _ qa W (hva.but hb) hfa (by omega)).mono fun e w' ⟨v',us,he,ho,hbt⟩=>⟨v',he,ho.qai,hbt⟩
have LIB:∀ W,But [] w W→Calls prog 16 #[.slice ab qb.length cb] W fun e w'=>∃ v,e=.returned v∧za w' v gs∧But [] W w':=fun W hb=>by
 rw[hgs]
 exact (zkr _ qb W (hvb.but hb) hfb (by omega)).mono fun e w' ⟨v',us,he,ho,hbt⟩=>⟨v',he,ho.qai,hbt⟩
have PLA:∀ W,But [] w W→Calls prog 19 #[.slice aa qa.length ca] W fun e w'=>∃ v,e=.returned v∧au w' v fs∧But [] W w':=fun W hb=>by rw[hfs];exact zic _ qa W (hva.but hb) hfa (by omega)
have PLB:∀ W,But [] w W→Calls prog 19 #[.slice ab qb.length cb] W fun e w'=>∃ v,e=.returned v∧au w' v gs∧But [] W w':=fun W hb=>by rw[hgs];exact zic _ qb W (hvb.but hb) hfb (by omega)
have LCA:∀ W v,za W v fs→Calls prog 17 #[v] W fun e w'=>e=.returned (.int .i64 (jo fs))∧But [] W w':=fun W v h=>zmv v fs W 1 h hn ln (by omega)
have LCB:∀ W v,za W v gs→Calls prog 17 #[v] W fun e w'=>e=.returned (.int .i64 (jo gs))∧But [] W w':=fun W v h=>zmv v gs W 1 h hm lg (by omega)
by_cases hx:jo fs=0
·(
obtain⟨m,hmf,r,g1,g2⟩:=zyt hx
obtain⟨hn0,hn1,hpos,hone⟩:=zcv hx
have ov:=zty hmf r ln hpos
obtain⟨D,hD⟩:∃ D,D=(((qh 1 (fs.take (m+1)):Nat):Int):Rat):=⟨_,rfl⟩
rw[← hD] at ov
have hm40:m≤39:=by omega
have TRA:∀ W v,za W v fs→Calls prog 20 #[v] W fun e w'=>∃ a c,e=.returned (.slice a (m+1) c)∧But [] W w':=fun W v h=>by
 refine (wu v fs (lf fs) m W h (fun i hi=>by unfold lf;rw[List.getElem?_eq_getElem hi];rfl) (by omega) (fun i _=>(ov.len i).mono (by omega)) hmf (.inr g1) g2).mono ?_
 rintro e w' ⟨v',rfl,hr,hb⟩
 obtain⟨a,c,rfl,-⟩:=hr.open
 rw[List.length_take,Nat.min_eq_left (by omega)]
 exact⟨a,c,rfl,hb⟩
have TT0:∀ W vx,But [] w W→za W vx fs→∀ (q1 q3 q4 q5 q8 q10 q11 q12 q13 q14 q15 q16 q17 q18 q19 q20 q21 q22 q23 q24 q25 q26 q27 q28 q29 q30 q31 q32 q33 q34 q35 q36 q37 q38 q39 q40 q41 q42 q43 q44 q45 q46 q47 q48 q49 q50 q51 q52 q53 q54 q55 q56 q57 q58 q59 q60 q61 q62 q63 q64 q65 q66 q67 q68 q69 q70 q71 q72 q73 q74 q75 q76 q77 q78 q79 q80 q81 q82 q83 q84 q85 q86 q87 q88 q89 q90 q91 q92 q93 q94 q95 q96 q97 q98 q99 q100 q101 q102 q103 q104 q105 q106 q107 q108 q109 q110 q111 q112 q113 q114 q115 q116 q117 q118 q119 q120 q121 q122 q123 q124 q125 q126 q127 q128 q129 q130 q131 q132 q133 q134 q135 q136 q137 q138 q139 q140 q141 q142 q143 q144 q145 q146 q147 q148 q149 q150 q151 q152 q153:Value),Code.wp prog (zez 14 uy) (bodyPost prog Tryz.f4 fun e w'=>e=.returned (.bool true)∧But [] w w') { tmps:=(.slice aa qa.length ca::q1::.int .i64 n::q3::q4::q5::.bool false::vx::q8::.int .i64 0::q10::q11::q12::q13::q14::q15::q16::q17::q18::q19::q20::q21::q22::q23::q24::q25::q26::q27::q28::q29::q30::q31::q32::q33::q34::q35::q36::q37::q38::q39::q40::q41::q42::q43::q44::q45::q46::q47::q48::q49::q50::q51::q52::q53::q54::q55::q56::q57::q58::q59::q60::q61::q62::q63::q64::q65::q66::q67::q68::q69::q70::q71::q72::q73::q74::q75::q76::q77::q78::q79::q80::q81::q82::q83::q84::q85::q86::q87::q88::q89::q90::q91::q92::q93::q94::q95::q96::q97::q98::q99::q100::q101::q102::q103::q104::q105::q106::q107::q108::q109::q110::q111::q112::q113::q114::q115::q116::q117::q118::q119::q120::q121::q122::q123::q124::q125::q126::q127::q128::q129::q130::q131::q132::q133::q134::q135::q136::q137::q138::q139::q140::q141::q142::q143::q144::q145::q146::q147::q148::q149::q150::q151::q152::q153::[]).toArray,defers:=[] } W:=fun W vx hb hr q1 q3 q4 q5 q8 q10 q11 q12 q13 q14 q15 q16 q17 q18 q19 q20 q21 q22 q23 q24 q25 q26 q27 q28 q29 q30 q31 q32 q33 q34 q35 q36 q37 q38 q39 q40 q41 q42 q43 q44 q45 q46 q47 q48 q49 q50 q51 q52 q53 q54 q55 q56 q57 q58 q59 q60 q61 q62 q63 q64 q65 q66 q67 q68 q69 q70 q71 q72 q73 q74 q75 q76 q77 q78 q79 q80 q81 q82 q83 q84 q85 q86 q87 q88 q89 q90 q91 q92 q93 q94 q95 q96 q97 q98 q99 q100 q101 q102 q103 q104 q105 q106 q107 q108 q109 q110 q111 q112 q113 q114 q115 q116 q117 q118 q119 q120 q121 q122 q123 q124 q125 q126 q127 q128 q129 q130 q131 q132 q133 q134 q135 q136 q137 q138 q139 q140 q141 q142 q143 q144 q145 q146 q147 q148 q149 q150 q151 q152 q153=>by
 have hlim:n<0∨200<n∨200<n*(m:Int)→∀ W va,But [] w W→au W va fs→Calls prog 25 #[va,.int .i64 n] W fun e w'=>∃ v,e=.returned (.tuple #[v,(ig 4)])∧jb w' 4 [] v∧But [] W w':=fun hl W va hb hv=>by
  obtain⟨b,off,cap,rfl,hcap⟩:=kw hv hn0
  refine (zzq b off cap fs.length fs m 1 n W hv rfl hcap hn1 hmf g1 g2 hx ln (by omega) hl).mono ?_
  rintro e w' ⟨he,hbt⟩
  exact⟨_,he,.inr ⟨by decide,rfl⟩,hbt⟩
 have L4:=zpw w htab herr
 by_cases h1:n<0
 ·exact qaa w W aa qa.length ca fs vx n (af hb) (af hr) (ig 4) [] h1 (af PLA) (af (hlim (.inl h1))) (af L4) q1 q3 q4 q5 q8 q10 q11 q12 q13 q14 q15 q16 q17 q18 q19 q20 q21 q22 q23 q24 q25 q26 q27 q28 q29 q30 q31 q32 q33 q34 q35 q36 q37 q38 q39 q40 q41 q42 q43 q44 q45 q46 q47 q48 q49 q50 q51 q52 q53 q54 q55 q56 q57 q58 q59 q60 q61 q62 q63 q64 q65 q66 q67 q68 q69 q70 q71 q72 q73 q74 q75 q76 q77 q78 q79 q80 q81 q82 q83 q84 q85 q86 q87 q88 q89 q90 q91 q92 q93 q94 q95 q96 q97 q98 q99 q100 q101 q102 q103 q104 q105 q106 q107 q108 q109 q110 q111 q112 q113 q114 q115 q116 q117 q118 q119 q120 q121 q122 q123 q124 q125 q126 q127 q128 q129 q130 q131 q132 q133 q134 q135 q136 q137 q138 q139 q140 q141 q142 q143 q144 q145 q146 q147 q148 q149 q150 q151 q152 q153
 by_cases h2:200<n
 ·exact zzz w W aa qa.length ca fs vx n (af hb) (af hr) (ig 4) [] h1 h2 (af PLA) (af (hlim (.inr (.inl h2)))) (af L4) q1 q3 q4 q5 q8 q10 q11 q12 q13 q14 q15 q16 q17 q18 q19 q20 q21 q22 q23 q24 q25 q26 q27 q28 q29 q30 q31 q32 q33 q34 q35 q36 q37 q38 q39 q40 q41 q42 q43 q44 q45 q46 q47 q48 q49 q50 q51 q52 q53 q54 q55 q56 q57 q58 q59 q60 q61 q62 q63 q64 q65 q66 q67 q68 q69 q70 q71 q72 q73 q74 q75 q76 q77 q78 q79 q80 q81 q82 q83 q84 q85 q86 q87 q88 q89 q90 q91 q92 q93 q94 q95 q96 q97 q98 q99 q100 q101 q102 q103 q104 q105 q106 q107 q108 q109 q110 q111 q112 q113 q114 q115 q116 q117 q118 q119 q120 q121 q122 q123 q124 q125 q126 q127 q128 q129 q130 q131 q132 q133 q134 q135 q136 q137 q138 q139 q140 q141 q142 q143 q144 q145 q146 q147 q148 q149 q150 q151 q152 q153
 have hQ:0≤n*(m:Int)∧n*(m:Int)≤40000:=⟨Int.mul_nonneg (by omega) (by omega),by
  have h3:n*(m:Int)≤n*200:=Int.mul_le_mul_of_nonneg_left (by omega) (by omega)
  omega⟩
 by_cases h3:200<n*(m:Int)
 ·exact zzy w W aa qa.length ca fs vx n (af hb) (af hr) (ig 4) [] h1 h2 (m+1) m _ (by omega) (by omega) (af rfl) (af hQ) h3 (af TRA) (af PLA) (af (hlim (.inr (.inr h3)))) (af L4) q1 q3 q4 q5 q8 q10 q11 q12 q13 q14 q15 q16 q17 q18 q19 q20 q21 q22 q23 q24 q25 q26 q27 q28 q29 q30 q31 q32 q33 q34 q35 q36 q37 q38 q39 q40 q41 q42 q43 q44 q45 q46 q47 q48 q49 q50 q51 q52 q53 q54 q55 q56 q57 q58 q59 q60 q61 q62 q63 q64 q65 q66 q67 q68 q69 q70 q71 q72 q73 q74 q75 q76 q77 q78 q79 q80 q81 q82 q83 q84 q85 q86 q87 q88 q89 q90 q91 q92 q93 q94 q95 q96 q97 q98 q99 q100 q101 q102 q103 q104 q105 q106 q107 q108 q109 q110 q111 q112 q113 q114 q115 q116 q117 q118 q119 q120 q121 q122 q123 q124 q125 q126 q127 q128 q129 q130 q131 q132 q133 q134 q135 q136 q137 q138 q139 q140 q141 q142 q143 q144 q145 q146 q147 q148 q149 q150 q151 q152 q153
 obtain⟨a0,c0,rfl,-⟩:=hr.open
 have hQ3:0≤n*(fs.length:Int)∧n*(fs.length:Int)≤100000:=⟨Int.mul_nonneg (by omega) (by omega),by
  have h3:n*(fs.length:Int)≤n*230:=Int.mul_le_mul_of_nonneg_left (by omega) (by omega)
  omega⟩
 by_cases h4:80<n*(fs.length:Int)
 ·exact qdg a0 c0 fs.length w W aa qa.length ca fs n (af hb) (af hr) h1 h2 (m+1) m _ (by omega) (by omega) (af rfl) (af hQ) h3 _ (af rfl) (af hQ3) h4 (af TRA) q1 q3 q4 q5 q8 q10 q11 q12 q13 q14 q15 q16 q17 q18 q19 q20 q21 q22 q23 q24 q25 q26 q27 q28 q29 q30 q31 q32 q33 q34 q35 q36 q37 q38 q39 q40 q41 q42 q43 q44 q45 q46 q47 q48 q49 q50 q51 q52 q53 q54 q55 q56 q57 q58 q59 q60 q61 q62 q63 q64 q65 q66 q67 q68 q69 q70 q71 q72 q73 q74 q75 q76 q77 q78 q79 q80 q81 q82 q83 q84 q85 q86 q87 q88 q89 q90 q91 q92 q93 q94 q95 q96 q97 q98 q99 q100 q101 q102 q103 q104 q105 q106 q107 q108 q109 q110 q111 q112 q113 q114 q115 q116 q117 q118 q119 q120 q121 q122 q123 q124 q125 q126 q127 q128 q129 q130 q131 q132 q133 q134 q135 q136 q137 q138 q139 q140 q141 q142 q143 q144 q145 q146 q147 q148 q149 q150 q151 q152 q153
 obtain⟨k,rfl⟩:∃ k:Nat,n=(k:Int):=⟨n.toNat,by omega⟩
 have hk3:k*m≤200:=by
  have h5:((k*m:Nat):Int)≤200:=by rw[Int.natCast_mul];omega
  omega
 have hk4:k*fs.length≤80:=by
  have h5:((k*fs.length:Nat):Int)≤80:=by rw[Int.natCast_mul];omega
  omega
 have hk5:k*(m+1)≤80:=Nat.le_trans (Nat.mul_le_mul_left k (by omega)) hk4
 have hk80:k≤80:=by
  have:k*1≤k*(m+1):=Nat.mul_le_mul_left k (by omega)
  omega
 have e5:k*(m+3+(m+2)+1)=k*(m+1)+k*(m+1)+k*4:=by
  rw[← Nat.mul_add,← Nat.mul_add];congr 1;omega
 have op:=Over.powers ov r (by omega) k
 have lP:∀ i,jc (pw (lf fs) k i) 1000000:=fun i=>(op.len i).mono (by
  have e6:k*(m+3+1)=k*(m+1)+k*3:=by rw[← Nat.mul_add]
  have e7:k*(m+2)=k*(m+1)+k*1:=by rw[← Nat.mul_add]
  omega)
 exact qie a0 c0 fs.length w W aa qa.length ca fs (k:Int) (af hb) (af hr) h1 h2 (m+1) m _ (by omega) (by omega) (af rfl) (af hQ) h3 _ (af rfl) (af hQ3) h4 ((List.range (k*m+1)).map (pw (lf fs) k)) (af TRA) (af PLA) (af (zvn fs m k mx w hx hmf r g1 g2 ln (by omega) hk3 hk4 htab herr hmx)) (af (zgs ((List.range (k*m+1)).map (pw (lf fs) k)) w htab herr (zhy _ _ lP) (by rw[List.length_map,List.length_range];omega))) (af (fun W v h=>zqz v fs m (m+3) (m+2) D r hmf (by omega) ov k (by omega) (by omega) (by omega) W h)) (af (fun W v h=>zpe _ _ (kg.powers r k) (by omega) lP W v h)) q1 q3 q4 q5 q8 q10 q11 q12 q13 q14 q15 q16 q17 q18 q19 q20 q21 q22 q23 q24 q25 q26 q27 q28 q29 q30 q31 q32 q33 q34 q35 q36 q37 q38 q39 q40 q41 q42 q43 q44 q45 q46 q47 q48 q49 q50 q51 q52 q53 q54 q55 q56 q57 q58 q59 q60 q61 q62 q63 q64 q65 q66 q67 q68 q69 q70 q71 q72 q73 q74 q75 q76 q77 q78 q79 q80 q81 q82 q83 q84 q85 q86 q87 q88 q89 q90 q91 q92 q93 q94 q95 q96 q97 q98 q99 q100 q101 q102 q103 q104 q105 q106 q107 q108 q109 q110 q111 q112 q113 q114 q115 q116 q117 q118 q119 q120 q121 q122 q123 q124 q125 q126 q127 q128 q129 q130 q131 q132 q133 q134 q135 q136 q137 q138 q139 q140 q141 q142 q143 q144 q145 q146 q147 q148 q149 q150 q151 q152 q153
rw[hx] at LCA
by_cases hy:jo gs=0
·(
obtain⟨p,hpg,rp,k1,k2⟩:=zyt hy
obtain⟨hp0,hp1,hposg,honeg⟩:=zcv hy
have ow:=zty hpg rp lg hposg
obtain⟨E,hE⟩:∃ E,E=(((qh 1 (gs.take (p+1)):Nat):Int):Rat):=⟨_,rfl⟩
rw[← hE] at ow
have hp40:p≤39:=by omega
have TRB:∀ W v,za W v gs→Calls prog 20 #[v] W fun e w'=>∃ a c,e=.returned (.slice a (p+1) c)∧But [] W w':=fun W v h=>by
 refine (wu v gs (lf gs) p W h (fun i hi=>by unfold lf;rw[List.getElem?_eq_getElem hi];rfl) (by omega) (fun i _=>(ow.len i).mono (by omega)) hpg (.inr k1) k2).mono ?_
 rintro e w' ⟨v',rfl,hr,hb⟩
 obtain⟨a,c,rfl,-⟩:=hr.open
 rw[List.length_take,Nat.min_eq_left (by omega)]
 exact⟨a,c,rfl,hb⟩
have hboth:fw fs gs=0:=by unfold fw;rw[if_neg (fun h=>h hx)];exact hy
have oc:=ov.prod ow (m+1) (by omega) (fun i hi=>r.far i (by omega)) (p+1) (fun i hi=>rp.far i (by omega))
have lC:∀ i,jc (cv (lf fs) (lf gs) i) 1000000:=fun i=>(oc.len i).mono (by omega)
have SU:∀ W va vb,But [] w W→au W va fs→au W vb gs→Calls prog 18 #[va,vb] W fun e w'=>∃ v,e=.returned (.tuple #[v,.nilIface])∧jb w' 0 ((List.range (m+p+1)).map (cv (lf fs) (lf gs))) v∧But [] W w':=fun W va vb hb h1 h2=>by
 obtain⟨b1,o1,c1,rfl,hc1⟩:=kw h1 hn0
 obtain⟨b2,o2,c2,rfl,hc2⟩:=kw h2 hp0
 refine (qmk b1 o1 c1 fs.length b2 o2 c2 gs.length fs gs m p 1 mx W h1 rfl hc1 hn1 hmf g1 g2 h2 rfl hc2 hp1 hpg k1 k2 hboth (by omega) (by omega) (by omega) ln lg r.far rp.far (TabIs.but htab hb) (hb.ag hmx (by simp)) hpos hposg).mono ?_
 rintro e w' ⟨g,he,hf,hbt⟩
 exact⟨_,he,.inl ⟨rfl,hf⟩,hbt⟩
have RT:∀ W va vb,za W va fs→za W vb gs→Calls prog 21 #[va,vb] W fun e w'=>∃ v',e=.returned v'∧za w' v' ((List.range (m+p+1)).map (cv (lf fs) (lf gs)))∧But [] W w':=fun W va vb h1 h2=>o9 va vb fs gs m p (m+3) (p+3) (m+2) (p+2) D E W h1 (by omega) (r.zkm hmf) ov h2 (by omega) (rp.zkm hpg) ow (by omega)
have TRS:∀ W v,za W v ((List.range (m+p+1)).map (cv (lf fs) (lf gs)))→Calls prog 20 #[v] W fun e w'=>∃ v',e=.returned v'∧za w' v' ((List.range (m+p+1)).map (cv (lf fs) (lf gs)))∧But [] W w':=fun W v h=>zpe _ _ (r.prod rp) (by omega) lC W v h
rw[hy] at LCB
have hmp:m*p≤39*39:=Nat.mul_le_mul (by omega) (by omega)
by_cases hl:200<m*p
·(
have CO:∀ W va vb,But [] w W→au W va fs→au W vb gs→Calls prog 23 #[va,vb] W fun e w'=>∃ v,e=.returned (.tuple #[v,(ig 4)])∧jb w' 4 [] v∧But [] W w':=fun W va vb hb h1 h2=>by
 obtain⟨b1,o1,c1,rfl,hc1⟩:=kw h1 hn0
 obtain⟨b2,o2,c2,rfl,hc2⟩:=kw h2 hp0
 refine (zru b1 o1 c1 fs.length b2 o2 c2 gs.length fs gs m p 1 W h1 rfl hc1 hn1 hmf g1 g2 h2 rfl hc2 hp1 hpg k1 k2 hboth ln lg (by omega) hl).mono ?_
 rintro e w' ⟨he,hbt⟩
 exact⟨_,he,.inr ⟨by decide,rfl⟩,hbt⟩
exact qid aa ab qa.length ca qb.length cb fs gs n w hga hgb (ig 4) _ [] (m+1) (p+1) m p (m*p) (by omega) (by omega) (by omega) (by omega) (by rw[Int.natCast_mul]) (by omega) hl LIA LIB LCA LCB PLA PLB SU (zgs ((List.range (m+p+1)).map (cv (lf fs) (lf gs))) w htab herr (zhy _ _ lC) (by rw[List.length_map,List.length_range];omega)) RT TRS TRA TRB CO (zpw w htab herr) TT0)
·(
have oh:=Over.horner ov ow r rp (by omega) m (Nat.le_refl _)
have e8:m*(p+3+(p+2)+2)=m*p+m*p+m*7:=by rw[← Nat.mul_add,← Nat.mul_add];congr 1;omega
have e9:m*(p+2)=m*p+m*2:=Nat.mul_add _ _ _
have lH:∀ i,jc (hor (lf fs) (lf gs) m m i) 1000000:=fun i=>(oh.len i).mono (by omega)
have e10:m*(p+3+2*(p+2)+2)=m*p+m*p+m*p+m*9:=by rw[← Nat.mul_add,← Nat.mul_add,← Nat.mul_add];congr 1;omega
exact qdb aa ab qa.length ca qb.length cb fs gs n w hga hgb _ ((List.range (m*p+1)).map (hor (lf fs) (lf gs) m m)) (m+1) (p+1) m p (m*p) (by omega) (by omega) (by omega) (by omega) (by rw[Int.natCast_mul]) (by omega) hl LIA LIB LCA LCB PLA PLB SU (zgs ((List.range (m+p+1)).map (cv (lf fs) (lf gs))) w htab herr (zhy _ _ lC) (by rw[List.length_map,List.length_range];omega)) RT TRS TRA TRB (qcd fs gs m p mx w hboth hx hy hmf r g1 g2 hpg rp k1 k2 ln lg (by omega) (by omega) (by omega) htab herr hmx) (zgs ((List.range (m*p+1)).map (hor (lf fs) (lf gs) m m)) w htab herr (zhy _ _ lH) (by rw[List.length_map,List.length_range];omega)) (fun W va vb h1 h2=>zlj va vb fs gs m p (m+3) (p+3) (m+2) (p+2) D E W h1 (by omega) hmf r ov h2 (by omega) hpg rp ow (by omega) (by omega)) TT0))
·(
have hne:fw fs gs=jo gs:=by unfold fw;rw[if_neg (fun h=>h hx)]
have hne0:fw fs gs≠0:=by rw[hne];exact hy
have SU:∀ W va vb,But [] w W→au W va fs→au W vb gs→Calls prog 18 #[va,vb] W fun e w'=>∃ v,e=.returned (.tuple #[v,(ig (jo gs))])∧jb w' (jo gs) [] v∧But [] W w':=fun W va vb hb h1 h2=>by
 refine (zyc va vb fs gs 1 W h1 h2 hn hm ln lg (by omega) hne0).mono ?_
 rintro e w' ⟨he,hbt⟩
 rw[hne,← zfz hy] at he
 exact⟨_,he,.inr ⟨hy,rfl⟩,hbt⟩
have CO:∀ W va vb,But [] w W→au W va fs→au W vb gs→Calls prog 23 #[va,vb] W fun e w'=>∃ v,e=.returned (.tuple #[v,(ig (jo gs))])∧jb w' (jo gs) [] v∧But [] W w':=fun W va vb hb h1 h2=>by
 refine (zjd va vb fs gs 1 W h1 h2 hn hm ln lg (by omega) hne0).mono ?_
 rintro e w' ⟨he,hbt⟩
 rw[hne,← zfz hy] at he
 exact⟨_,he,.inr ⟨hy,rfl⟩,hbt⟩
have LW:=zis (jo gs) [] w htab herr (fun f hf=>by simp at hf) (by simp)
exact qdc aa ab qa.length ca qb.length cb fs gs n w hga hgb (jo gs) hy (by simpa using hy) _ _ [] [] LIA LIB LCA LCB PLA PLB SU LW CO LW TT0))
·(
have hne:fw fs gs=jo fs:=by unfold fw;rw[if_pos hx]
have hne0:fw fs gs≠0:=by rw[hne];exact hx
have SU:∀ W va vb,But [] w W→au W va fs→au W vb gs→Calls prog 18 #[va,vb] W fun e w'=>∃ v,e=.returned (.tuple #[v,(ig (jo fs))])∧jb w' (jo fs) [] v∧But [] W w':=fun W va vb hb h1 h2=>by
 refine (zyc va vb fs gs 1 W h1 h2 hn hm ln lg (by omega) hne0).mono ?_
 rintro e w' ⟨he,hbt⟩
 rw[hne,← zfz hx] at he
 exact⟨_,he,.inr ⟨hx,rfl⟩,hbt⟩
have CO:∀ W va vb,But [] w W→au W va fs→au W vb gs→Calls prog 23 #[va,vb] W fun e w'=>∃ v,e=.returned (.tuple #[v,(ig (jo fs))])∧jb w' (jo fs) [] v∧But [] W w':=fun W va vb hb h1 h2=>by
 refine (zjd va vb fs gs 1 W h1 h2 hn hm ln lg (by omega) hne0).mono ?_
 rintro e w' ⟨he,hbt⟩
 rw[hne,← zfz hx] at he
 exact⟨_,he,.inr ⟨hx,rfl⟩,hbt⟩
have TI:∀ W va,But [] w W→au W va fs→Calls prog 25 #[va,.int .i64 n] W fun e w'=>∃ v,e=.returned (.tuple #[v,(ig (jo fs))])∧jb w' (jo fs) [] v∧But [] W w':=fun W va hb h1=>by
 refine (zzr va fs n 1 W h1 hn ln (by omega) hx).mono ?_
 rintro e w' ⟨he,hbt⟩
 rw[← zfz hx] at he
 exact⟨_,he,.inr ⟨hx,rfl⟩,hbt⟩
have LW:=zis (jo fs) [] w htab herr (fun f hf=>by simp at hf) (by simp)
exact qdd aa ab qa.length ca qb.length cb fs gs n w hga hgb (jo fs) (jo gs) hx (by simpa using hx) _ _ [] [] LIA LIB LCA LCB PLA PLB SU LW CO LW (fun W vx hb hr q1 q3 q4 q5 q8 q10 q11 q12 q13 q14 q15 q16 q17 q18 q19 q20 q21 q22 q23 q24 q25 q26 q27 q28 q29 q30 q31 q32 q33 q34 q35 q36 q37 q38 q39 q40 q41 q42 q43 q44 q45 q46 q47 q48 q49 q50 q51 q52 q53 q54 q55 q56 q57 q58 q59 q60 q61 q62 q63 q64 q65 q66 q67 q68 q69 q70 q71 q72 q73 q74 q75 q76 q77 q78 q79 q80 q81 q82 q83 q84 q85 q86 q87 q88 q89 q90 q91 q92 q93 q94 q95 q96 q97 q98 q99 q100 q101 q102 q103 q104 q105 q106 q107 q108 q109 q110 q111 q112 q113 q114 q115 q116 q117 q118 q119 q120 q121 q122 q123 q124 q125 q126 q127 q128 q129 q130 q131 q132 q133 q134 q135 q136 q137 q138 q139 q140 q141 q142 q143 q144 q145 q146 q147 q148 q149 q150 q151 q152 q153=>qdf w W aa qa.length ca fs vx n (af hb) (af hr) (jo fs) (ig (jo fs)) [] hx (by simpa using hx) (af PLA) (af TI) (af LW) q1 q3 q4 q5 q8 q10 q11 q12 q13 q14 q15 q16 q17 q18 q19 q20 q21 q22 q23 q24 q25 q26 q27 q28 q29 q30 q31 q32 q33 q34 q35 q36 q37 q38 q39 q40 q41 q42 q43 q44 q45 q46 q47 q48 q49 q50 q51 q52 q53 q54 q55 q56 q57 q58 q59 q60 q61 q62 q63 q64 q65 q66 q67 q68 q69 q70 q71 q72 q73 q74 q75 q76 q77 q78 q79 q80 q81 q82 q83 q84 q85 q86 q87 q88 q89 q90 q91 q92 q93 q94 q95 q96 q97 q98 q99 q100 q101 q102 q103 q104 q105 q106 q107 q108 q109 q110 q111 q112 q113 q114 q115 q116 q117 q118 q119 q120 q121 q122 q123 q124 q125 q126 q127 q128 q129 q130 q131 q132 q133 q134 q135 q136 q137 q138 q139 q140 q141 q142 q143 q144 q145 q146 q147 q148 q149 q150 q151 q152 q153)))
end Go.Proofs.YtpmjeclpkahkmaaGreatDoor
