/- Two laws together, and limits, as the Go -/
import Derived.Test.YtpmjeclpkahkmaaGreatDoorVCSa
namespace Go.Proofs.YtpmjeclpkahkmaaGreatDoor
open Go.Proofs.Tryz
open Go.RowKit
set_option maxHeartbeats 16000000
set_option maxRecDepth 100000
set_option linter.unusedVariables false
theorem zyc (va vb:Value) (fs gs:List Rat) (c:Nat) (w:World) (ha:au w va fs) (hb:au w vb gs) (hn:fs.length≤1000) (hm:gs.length≤1000) (lf:∀ f ∈ fs,Len f c) (lg:∀ f ∈ gs,Len f c) (hc:c≤100) (hne:fw fs gs≠0) :
  Calls prog 18 #[va,vb] w fun e w'=>e=.returned (.tuple #[.slice none 0 0,.iface 33 (.int .i64 (fw fs gs))])∧But [] w w':=by(
have CH:=af (ni va vb fs gs c w ha hb hn hm lf lg hc)
obtain⟨q,cap,rfl,-,-⟩:=id ha
obtain⟨q',cap',rfl,-,-⟩:=id hb
rw[show ig (fw fs gs)=.iface 33 (.int .i64 (fw fs gs)) from by unfold ig;rw[if_neg hne]] at CH
generalize fw fs gs=z at *
clear ha hb lf lg hne
go_enter func18,ntmps18
go_wp2_with fail
refine (ae CH).mono ?_
rintro e w1 ⟨rfl,hb1⟩
have B1:=af hb1
clear hb1 CH
go_wp2
exact bodyPost_ret (v:=.tuple #[.slice none 0 0,.iface 33 (.int .i64 z)]) (by simp[results,results18,go_sem]) rfl ⟨rfl,ae B1⟩)
theorem zzr (v:Value) (fs:List Rat) (n:Int) (c:Nat) (w:World) (hv:au w v fs) (hn:fs.length≤1000) (lf:∀ f ∈ fs,Len f c) (hc:c≤100) (hne:jo fs≠0) :
  Calls prog 25 #[v,.int .i64 n] w fun e w'=>e=.returned (.tuple #[.slice none 0 0,.iface 33 (.int .i64 (jo fs))])∧But [] w w':=by(
have CH:=af (zaf v fs c w hv hn lf hc)
obtain⟨q,cap,rfl,-,-⟩:=id hv
rw[show ig (jo fs)=.iface 33 (.int .i64 (jo fs)) from by unfold ig;rw[if_neg hne]] at CH
generalize jo fs=z at *
clear hv lf hne
go_enter func25,ntmps25
go_wp2_with fail
refine (ae CH).mono ?_
rintro e w1 ⟨rfl,hb1⟩
have B1:=af hb1
clear hb1 CH
go_wp2
exact bodyPost_ret (v:=.tuple #[.slice none 0 0,.iface 33 (.int .i64 z)]) (by simp[results,results25,go_sem]) rfl ⟨rfl,ae B1⟩)
theorem zzq (ba oa ca la:Nat) (fs:List Rat) (m c:Nat) (n:Int) (w:World) (hva:au w (.slice (some ⟨ba,oa,none⟩) la ca) fs) (hNa:la=fs.length) (hca:la≤ca) (hla:fs.length≤201) (hma:m<fs.length) (ta1:(fs[m]?.getD 0).num≠0) (ta2:∀ j,m<j→j<fs.length→(fs[j]?.getD 0).num=0) (hck:jo fs=0) (lf:∀ f ∈ fs,Len f c) (hc:c≤100) (hlim:n<0∨200<n∨200<n*(m:Int)) :
  Calls prog 25 #[.slice (some ⟨ba,oa,none⟩) la ca,.int .i64 n] w fun e w'=>e=.returned (.tuple #[.slice none 0 0,.iface 33 (.int .i64 4)])∧But [] w w':=by(
have CH:=af (zaf _ fs c w hva (by omega) lf hc)
rw[hck] at CH
have GR:=af (fun W (h:But [] w W)=>j3 _ fs m W (hva.but h) (by omega) hma ta1 ta2)
have hm201:m≤200:=by omega
clear hva lf ta1 ta2 hck hNa
have hx:n<0∨(¬ n<0∧200<n)∨(¬ n<0∧¬ 200<n∧200<n*(m:Int)):=by omega
clear hlim
have hp0:¬ n<0→0≤n*(m:Int):=fun h=>Int.mul_nonneg (by omega) (by omega)
have hp1:¬ n<0→¬ 200<n→n*(m:Int)≤200*200:=fun h h2=>by
 have h3:n*(m:Int)≤n*200:=Int.mul_le_mul_of_nonneg_left (by omega) (by omega)
 omega
obtain⟨pn,hpn⟩:∃ p,p=n*(m:Int):=⟨_,rfl⟩
rw[← hpn] at hx hp0 hp1
have HP:=af hpn.symm
have HX:=af hx
have H0:=af hp0
have H1:=af hp1
clear hpn hx hp0 hp1
go_enter func25,ntmps25
go_wp2_with fail
refine (ae CH).mono ?_
rintro e w1 ⟨rfl,hb1⟩
have B1:=af hb1
clear hb1 CH
rw[show ig 0=.nilIface from rfl]
rcases ae HX with h1|⟨h1,h2⟩|⟨h1,h2,h3⟩
·clear H0 H1 HP GR HX
 go_wp2
 exact bodyPost_ret (v:=.tuple #[.slice none 0 0,.iface 33 (.int .i64 4)]) (by simp[results,results25,go_sem]) rfl ⟨rfl,ae B1⟩
·clear H0 H1 HP GR HX
 go_wp2
 exact bodyPost_ret (v:=.tuple #[.slice none 0 0,.iface 33 (.int .i64 4)]) (by simp[results,results25,go_sem]) rfl ⟨rfl,ae B1⟩
·(
have q0:=ae H0 h1
have q1:=ae H1 h1 h2
clear H0 H1 HX
go_wp2_with fail
refine (ae GR _ (ae B1)).mono ?_
rintro e w2 ⟨rfl,hb2⟩
have B2:=af ((ae B1).trans' hb2)
clear hb2 GR
have HPP:=ae HP
go_wp2
exact bodyPost_ret (v:=.tuple #[.slice none 0 0,.iface 33 (.int .i64 4)]) (by simp[results,results25,go_sem]) rfl ⟨rfl,ae B2⟩))
theorem zru (ba oa ca la bb ob cb lb:Nat) (fs gs:List Rat) (m q c:Nat) (w:World) (hva:au w (.slice (some ⟨ba,oa,none⟩) la ca) fs) (hNa:la=fs.length) (hca:la≤ca) (hla:fs.length≤201) (hma:m<fs.length) (ta1:(fs[m]?.getD 0).num≠0) (ta2:∀ j,m<j→j<fs.length→(fs[j]?.getD 0).num=0) (hvb:au w (.slice (some ⟨bb,ob,none⟩) lb cb) gs) (hNb:lb=gs.length) (hcb:lb≤cb) (hlb:gs.length≤201) (hmb:q<gs.length) (tb1:(gs[q]?.getD 0).num≠0) (tb2:∀ j,q<j→j<gs.length→(gs[j]?.getD 0).num=0) (hck:fw fs gs=0) (lf:∀ f ∈ fs,Len f c) (lg:∀ f ∈ gs,Len f c) (hc:c≤100) (hlim:200<m*q) :
  Calls prog 23 #[.slice (some ⟨ba,oa,none⟩) la ca,.slice (some ⟨bb,ob,none⟩) lb cb] w fun e w'=>e=.returned (.tuple #[.slice none 0 0,.iface 33 (.int .i64 4)])∧But [] w w':=by(
have CH:=af (ni _ _ fs gs c w hva hvb (by omega) (by omega) lf lg hc)
rw[hck] at CH
have GN:=af (fun W (h:But [] w W)=>j3 _ fs m W (hva.but h) (by omega) hma ta1 ta2)
have GR:=af (fun W (h:But [] w W)=>j3 _ gs q W (hvb.but h) (by omega) hmb tb1 tb2)
obtain⟨p,hp⟩:∃ p,p=m*q:=⟨_,rfl⟩
have hp2:(m:Int)*(q:Int)=(p:Int):=by rw[hp,Int.natCast_mul]
have hp3:p≤200*200:=by rw[hp];exact Nat.mul_le_mul (by omega) (by omega)
rw[← hp] at hlim
clear hp hva hvb lf lg ta1 ta2 tb1 tb2 hck hNa hNb
have HP:=af hp2
clear hp2
go_enter func23,ntmps23
go_wp2_with fail
refine (ae CH).mono ?_
rintro e w1 ⟨rfl,hb1⟩
have B1:=af hb1
clear hb1 CH
rw[show ig 0=.nilIface from rfl]
go_wp2_with fail
refine (ae GN _ (ae B1)).mono ?_
rintro e w2 ⟨rfl,hb2⟩
have B2:=af ((ae B1).trans' hb2)
clear hb2 GN
go_wp2_with fail
refine (ae GR _ (ae B2)).mono ?_
rintro e w3 ⟨rfl,hb3⟩
have B3:=af ((ae B2).trans' hb3)
clear hb3 GR
have HPP:=ae HP
go_wp2
exact bodyPost_ret (v:=.tuple #[.slice none 0 0,.iface 33 (.int .i64 4)]) (by simp[results,results23,go_sem]) rfl ⟨rfl,ae B3⟩)
theorem zgk (fs:List Rat) (m:Nat) (hm:m<fs.length) (far:∀ j,m<j→lf fs j=0) (i:Nat):lf (bh (fs.take (m+1))) i=(((qh 1 (fs.take (m+1)):Nat):Int):Rat)*lf fs i:=by(
have hl:(fs.take (m+1)).length=m+1:=by rw[List.length_take];omega
unfold bh
rw[hl]
rcases Nat.lt_or_ge i (m+1) with h | h
·rw[zfw _ _ _ h,List.getElem?_take,if_pos h]
 show lf fs i*_=_*lf fs i
 grind
·rw[ru _ _ (by simpa using h),far i (by omega)];grind)
theorem qmk (ba oa ca la bb ob cb lb:Nat) (fs gs:List Rat) (m q c:Nat) (mx:Int) (w:World) (hva:au w (.slice (some ⟨ba,oa,none⟩) la ca) fs) (hNa:la=fs.length) (hca:la≤ca) (hla:fs.length≤201) (hma:m<fs.length) (ta1:(fs[m]?.getD 0).num≠0) (ta2:∀ j,m<j→j<fs.length→(fs[j]?.getD 0).num=0) (hvb:au w (.slice (some ⟨bb,ob,none⟩) lb cb) gs) (hNb:lb=gs.length) (hcb:lb≤cb) (hlb:gs.length≤201) (hmb:q<gs.length) (tb1:(gs[q]?.getD 0).num≠0) (tb2:∀ j,q<j→j<gs.length→(gs[j]?.getD 0).num=0) (hck:fw fs gs=0) (hmq:m+q≤200) (hm60:m≤60) (hq60:q≤60) (ln:∀ f ∈ fs,Len f 1) (lg:∀ f ∈ gs,Len f 1) (far1:∀ j,m<j→lf fs j=0) (far2:∀ j,q<j→lf gs j=0)
  (htab:Lib.TabIs prog w "internal/strconv.uint64pow10" .u64 Lib.pow10Tab) (hmx:w.cell? ⟨5,0,none⟩=some (.int .i64 mx)) (pf:∀ f ∈ fs,0≤f) (pg:∀ f ∈ gs,0≤f) :
  Calls prog 18 #[.slice (some ⟨ba,oa,none⟩) la ca,.slice (some ⟨bb,ob,none⟩) lb cb] w fun e w'=>∃ g,e=.returned (.tuple #[.slice (some ⟨g,0,none⟩) (m+q+1) (m+q+1),.nilIface])∧au w' (.slice (some ⟨g,0,none⟩) (m+q+1) (m+q+1)) ((List.range (m+q+1)).map (cv (lf fs) (lf gs)))∧But [] w w':=by(
have CH:=af (ni _ _ fs gs 1 w hva hvb (by omega) (by omega) ln lg (by omega))
rw[hck] at CH
have GN:=af (fun W (h:But [] w W)=>j3 _ fs m W (hva.but h) (by omega) hma ta1 ta2)
have GR:=af (fun W (h:But [] w W)=>j3 _ gs q W (hvb.but h) (by omega) hmb tb1 tb2)
have SN:=af (fun W (h:But [] w W)=>zdw ba oa ca la fs m W (hva.but h) hNa hca (by omega) hma ta1 ta2)
have SH:=af (fun W (h:But [] w W)=>zdw bb ob cb lb gs q W (hvb.but h) hNb hcb (by omega) hmb tb1 tb2)
have hk1:(fs.take (m+1)).length=m+1:=by rw[List.length_take];omega
have hk2:(gs.take (q+1)).length=q+1:=by rw[List.length_take];omega
have WN:=af (fun W v' (h:But [] w W) (hv':au W v' (fs.take (m+1)))=>zch v' (fs.take (m+1)) W mx 1 hv' (by omega) (fun f hf=>ln f (List.mem_of_mem_take hf)) (by omega) (TabIs.but htab h) (h.ag hmx (by simp)))
have WA:=af (fun W v' (h:But [] w W) (hv':au W v' (gs.take (q+1)))=>zch v' (gs.take (q+1)) W mx 1 hv' (by omega) (fun f hf=>lg f (List.mem_of_mem_take hf)) (by omega) (TabIs.but htab h) (h.ag hmx (by simp)))
obtain⟨u1,u2,u3,u4,u5⟩:=zcb (fs.take (m+1)) 1 (m+1) (fun f hf=>pf f (List.mem_of_mem_take hf)) (fun f hf=>ln f (List.mem_of_mem_take hf)) (by omega)
obtain⟨t1,t2,t3,t4,t5⟩:=zcb (gs.take (q+1)) 1 (q+1) (fun f hf=>pg f (List.mem_of_mem_take hf)) (fun f hf=>lg f (List.mem_of_mem_take hf)) (by omega)
have eW1:(List.range (m+1)).map (fun i=>(fs.take (m+1))[i]?.getD 0*(((qh 1 (fs.take (m+1)):Nat):Int):Rat))=bh (fs.take (m+1)):=by unfold bh;rw[hk1]
have eW2:(List.range (q+1)).map (fun i=>(gs.take (q+1))[i]?.getD 0*(((qh 1 (gs.take (q+1)):Nat):Int):Rat))=bh (gs.take (q+1)):=by unfold bh;rw[hk2]
have wl1:=zgk fs m hma far1
have wl2:=zgk gs q hmb far2
have wn1:(bh (fs.take (m+1))).length=m+1:=by unfold bh;simp[hk1]
have wn2:(bh (gs.take (q+1))).length=q+1:=by unfold bh;simp[hk2]
obtain⟨U1,hU1⟩:∃ U,U=(((qh 1 (fs.take (m+1)):Nat):Int):Rat):=⟨_,rfl⟩
obtain⟨U2,hU2⟩:∃ U,U=(((qh 1 (gs.take (q+1)):Nat):Int):Rat):=⟨_,rfl⟩
have up1:0<U1:=by rw[hU1];exact Rat.intCast_pos.2 (by omega)
have up2:0<U2:=by rw[hU2];exact Rat.intCast_pos.2 (by omega)
rw[← hU1] at WN u2 eW1 wl1
rw[← hU2] at WA t2 eW2 wl2
rw[hk1] at WN
rw[hk2] at WA
obtain⟨pl,hpl⟩:∃ pl,pl=(List.range (m+q+1)).map (yg (bh (fs.take (m+1))) (bh (gs.take (q+1))) (m+1)):=⟨_,rfl⟩
have hpln:pl.length=m+q+1:=by rw[hpl];simp
have lpl:∀ f ∈ pl,Len f 1000000:=fun f hf=>by
 rw[hpl] at hf
 obtain⟨i,-,rfl⟩:=List.mem_map.1 hf
 have e:=zct (bh (fs.take (m+1))) (bh (gs.take (q+1))) i
 rw[wn1] at e
 rw[e]
 have hb:isN (cv (lf (bh (fs.take (m+1)))) (lf (bh (gs.take (q+1)))) i) (18446744073709551616^(1+(1+(m+1)*1)+(1+(1+(q+1)*1))+1)):=by
  have h:=(Over.prod (f:=lf (bh (fs.take (m+1)))) (g:=lf (bh (gs.take (q+1)))) (D:=1) (E:=1) (d:=0) (e:=0) ⟨fun k=>by rw[Rat.mul_one];exact u4 k,zdl _ (by decide),by decide⟩ ⟨fun k=>by rw[Rat.mul_one];exact t4 k,zdl _ (by decide),by decide⟩ (m+1) (by omega) (fun k hk=>ru _ _ (by rw[wn1];exact hk)) (q+1) (fun k hk=>ru _ _ (by rw[wn2];exact hk))).all i
  rw[Rat.mul_one,Rat.mul_one] at h
  exact h
 exact (zes hb).mono (by omega)
have PR:=af (fun W (v1 v2:Value) (h1:au W v1 (bh (fs.take (m+1)))) (h2:au W v2 (bh (gs.take (q+1))))=>show Calls prog 103 #[v1,v2] W fun e w'=>∃ g,e=.returned (.slice (some ⟨g,0,none⟩) (m+q+1) (m+q+1))∧au w' (.slice (some ⟨g,0,none⟩) (m+q+1) (m+q+1)) pl∧But [] W w' by
 have h:=zks v1 v2 (bh (fs.take (m+1))) (bh (gs.take (q+1))) 200 W h1 h2 (by omega) (by omega) (by omega) (by omega) (fun f hf=>(u3 f hf).mono (by omega)) (fun f hf=>(t3 f hf).mono (by omega)) (by omega)
 rw[wn1,wn2,show m+1+(q+1)-1=m+q+1 by omega] at h
 refine h.mono ?_
 rintro e w' ⟨g,he,hr,-,-,hb⟩
 exact⟨g,he,by rw[hpl];exact hr.zcq,hb⟩)
have MU:=af (fun W (v1 v2:Value) (h1:aq W v1 U1) (h2:aq W v2 U2)=>show Calls prog 104 #[v1,v2] W fun e w'=>∃ z:FZ,e=.returned (.agg #[.bool z.1,.int .u64 z.2.1,.int .u64 z.2.2.1,.pointer z.2.2.2])∧aq w' (.agg #[.bool z.1,.int .u64 z.2.1,.int .u64 z.2.2.1,.pointer z.2.2.2]) (U1*U2)∧But [] W w' by
 refine (j6 v1 v2 U1 U2 W h1 h2 (u2.mono (by omega)) (t2.mono (by omega))).mono ?_
 rintro e w' ⟨v,he,hf,hb⟩
 obtain⟨x,y,p,rfl,-⟩:=hf.agg
 exact⟨(_,x,y,p),he,hf,hb⟩)
have lU:Len (U1*U2) 1000000:=(zbv u2 t2 1000 (by omega)).mono (by omega)
have hUU:U1*U2≠0:=by have:=Rat.mul_pos up1 up2;grind
obtain⟨ql,hql⟩:∃ ql,ql=(List.range (m+q+1)).map (cv (lf fs) (lf gs)):=⟨_,rfl⟩
have CHH:=af (fun W (g:Nat) (z:FZ) (h1:au W (.slice (some ⟨g,0,none⟩) (m+q+1) (m+q+1)) pl) (h2:aq W (.agg #[.bool z.1,.int .u64 z.2.1,.int .u64 z.2.2.1,.pointer z.2.2.2]) (U1*U2))=>show Calls prog 105 #[.agg #[.slice (some ⟨g,0,none⟩) (m+q+1) (m+q+1),.bool z.1,.int .u64 z.2.1,.int .u64 z.2.2.1,.pointer z.2.2.2]] W fun e w'=>∃ g,e=.returned (.slice (some ⟨g,0,none⟩) (m+q+1) (m+q+1))∧au w' (.slice (some ⟨g,0,none⟩) (m+q+1) (m+q+1)) ql∧But [] W w' by
 have h:=zge _ z.1 z.2.1 z.2.2.1 z.2.2.2 pl (U1*U2) W h1 h2 (by omega) lpl lU (fun e=>hUU (Rat.num_eq_zero.1 e))
 rw[hpln] at h
 refine h.mono ?_
 rintro e w' ⟨g2,he,hr,-,-,hb⟩
 refine⟨g2,he,?_,hb⟩
 have hx:=hr.zcq
 have e2:(List.range (m+q+1)).map (fun i=>pl[i]?.getD 0/(U1*U2))=ql:=by
  rw[hql]
  refine List.map_congr_left (fun i hi=>?_)
  rw[List.mem_range] at hi
  have e3:pl[i]?.getD 0=cv (lf (bh (fs.take (m+1)))) (lf (bh (gs.take (q+1)))) i:=by
   have:=zct (bh (fs.take (m+1))) (bh (gs.take (q+1))) i
   rw[wn1] at this
   rw[← this,hpl]
   exact zfw _ _ _ hi
  rw[e3]
  have e4:lf (bh (fs.take (m+1)))=fun i=>U1*lf fs i:=by funext i;exact wl1 i
  have e5:lf (bh (gs.take (q+1)))=fun i=>U2*lf gs i:=by funext i;exact wl2 i
  rw[e4,e5,zma,zza]
  show U1*(U2*cv (lf fs) (lf gs) i)/(U1*U2)=_
  rw[← Rat.mul_assoc,Rat.mul_comm (U1*U2)]
  exact Rat.mul_div_cancel hUU
 rw[e2] at hx
 exact hx)
rw[← hql]
obtain⟨L,hL⟩:∃ L,L=m+q+1:=⟨_,rfl⟩
rw[← hL] at PR CHH
rw[← hL]
have hsI:(m:Int)+(q:Int)≤200:=by omega
clear hva hvb ln lg htab hmx ta1 ta2 tb1 tb2 hck u1 u2 u3 u4 u5 t1 t2 t3 t4 t5 wl1 wl2 wn1 wn2 hU1 hU2 up1 up2 hpl hpln lpl lU hUU hql hL hNa hNb pf pg far1 far2
go_enter func18,ntmps18
go_wp2_with fail
refine (ae CH).mono ?_
rintro e w1 ⟨rfl,hb⟩
have HB:=af hb
clear hb CH
rw[show ig 0=.nilIface from rfl]
go_wp2_with fail
refine (ae GN _ (ae HB)).mono ?_
rintro e w2 ⟨rfl,hb⟩
replace HB:=af ((ae HB).trans' hb)
clear hb GN
go_wp2_with fail
refine (ae GR _ (ae HB)).mono ?_
rintro e w3 ⟨rfl,hb⟩
replace HB:=af ((ae HB).trans' hb)
clear hb GR
go_wp2_with fail
refine (ae SN _ (ae HB)).mono ?_
rintro e w4 ⟨rfl,h4,hb⟩
replace HB:=af ((ae HB).trans' hb)
have F1:=af (h4)
clear h4 hb SN
go_wp2_with fail
refine (ae WN _ _ (ae HB) (ae F1)).mono ?_
rintro e w5 ⟨gw,sw,xw,yw,pw,rfl,h5,h5r,-,-,hb⟩
replace HB:=af ((ae HB).trans' hb)
have W1:=af ((by rw[← eW1];exact h5r.zcq:au w5 (.slice (some ⟨gw,0,none⟩) (m+1) (m+1)) (bh (fs.take (m+1)))))
have D1:=af (h5)
clear h5 h5r hb F1 WN
go_wp2_with fail
refine (ae SH _ (ae HB)).mono ?_
rintro e w6 ⟨rfl,h6,hb⟩
replace HB:=af ((ae HB).trans' hb)
replace W1:=af ((ae W1).but hb)
replace D1:=af ((ae D1).but hb)
have F2:=af (h6)
clear h6 hb SH
go_wp2_with fail
refine (ae WA _ _ (ae HB) (ae F2)).mono ?_
rintro e w7 ⟨gx,sx,xx,yx,px,rfl,h7,h7r,-,-,hb⟩
replace HB:=af ((ae HB).trans' hb)
replace W1:=af ((ae W1).but hb)
replace D1:=af ((ae D1).but hb)
have W2:=af ((by rw[← eW2];exact h7r.zcq:au w7 (.slice (some ⟨gx,0,none⟩) (q+1) (q+1)) (bh (gs.take (q+1)))))
have D2:=af (h7)
clear h7 h7r hb F2 WA eW1 eW2
go_upto_region 7 with fail
obtain⟨X,hX⟩:∃ X,X=(w7.alloc (.cells #[.slice (some ⟨gw,0,none⟩) (m+1) (m+1),.bool sw,.int .u64 xw,.int .u64 yw,.pointer pw] 151)).alloc (.cells #[.slice (some ⟨gx,0,none⟩) (q+1) (q+1),.bool sx,.int .u64 xx,.int .u64 yx,.pointer px] 151):=⟨_,rfl⟩
have bX:But [] w7 X:=by rw[hX];exact ((But.refl _ _).alloc _).alloc _
have cu:X.cell? ⟨w7.heap.size,0,none⟩=some (.slice (some ⟨gw,0,none⟩) (m+1) (m+1)):=by rw[hX];simp
have cv:P4o X w7.heap.size 1 sw xw yw pw:=by rw[hX];exact⟨by simp,by simp,by simp,by simp⟩
have cw:X.cell? ⟨w7.heap.size+1,0,none⟩=some (.slice (some ⟨gx,0,none⟩) (q+1) (q+1)):=by rw[hX];simp
have cz:P4o X (w7.heap.size+1) 1 sx xx yx px:=by rw[hX];exact⟨by simp,by simp,by simp,by simp⟩
have BX:=af bX
rw[← hX]
clear bX hX
refine zso 7 _ _ X w7.heap.size (w7.heap.size+1) gw 0 (m+1) (m+1) gx 0 (q+1) (q+1) L pl ql (U1*U2) sw xw yw pw sx xx yx px (by simp) (by simp[Act.eval]) (by simp[Act.eval]) cu cv cw cz (fun W hb=>ae PR W _ _ ((ae W1).but ((ae BX).trans' hb)) ((ae W2).but ((ae BX).trans' hb))) (fun W hb=>ae MU W _ _ ((ae D1).but ((ae BX).trans' hb)) ((ae D2).but ((ae BX).trans' hb))) (fun W g z hb h1 h2=>ae CHH W g z h1 h2) ?_
intro p5 z5 q5 w9 hP
simp only[bj,List.foldl_cons,List.foldl_nil,Act.put,List.setIfInBounds_toArray,List.set_cons_zero,List.set_cons_succ]
have FIN:=af (And.intro (hP.f11 rfl) ((ae HB).trans' ((ae BX).trans' hP.mem)))
clear hP PR MU CHH W1 W2 D1 D2 cu cv cw cz
go_wp2
exact bodyPost_ret (v:=.tuple #[.slice (some ⟨q5,0,none⟩) L L,.nilIface]) (by simp[results,results18,go_sem]) rfl ⟨q5,rfl,(ae FIN).1,(ae FIN).2⟩)
theorem zye (fs:List Rat):∀ k,k≤fs.length→zdr (fs.take k)=sgR (fun j=>fs[j]?.getD 0) k
 | 0,_=>rfl
 | k+1,h=>by
  rw[zgn fs k (by omega),zye fs k (by omega)]
  rfl
theorem qdh (fs:List Rat):zdr fs=sgR (fun j=>fs[j]?.getD 0) fs.length:=by(
have h:=zye fs fs.length (Nat.le_refl _)
rw[List.take_length] at h
exact h)
theorem qbg {fs:List Rat} (h:∀ f ∈ fs,0≤f) (k:Nat) (hk:k<fs.length):0≤fs[k]?.getD 0:=by
 rw[List.getElem?_eq_getElem hk]
 exact h _ (List.getElem_mem hk)
theorem zum {fs:List Rat} (h:jo fs=0):∃ m,m<fs.length∧(fs[m]?.getD 0).num≠0∧∀ j,m<j→j<fs.length→(fs[j]?.getD 0).num=0:=by(
obtain⟨h0,h1,hp,hs⟩:=zcv h
have key:∀ d,d≤fs.length→(∃ m,m<fs.length∧(fs[m]?.getD 0).num≠0∧∀ j,m<j→j<fs.length→(fs[j]?.getD 0).num=0)∨∀ j,fs.length-d≤j→j<fs.length→(fs[j]?.getD 0).num=0:=by
 intro d
 induction d with
 | zero=>exact fun _=>.inr (fun j h1 h2=>by omega)
 | succ d ih =>
  intro hd
  rcases ih (by omega) with h | h
  ·exact .inl h
  ·by_cases hz:(fs[fs.length-(d+1)]?.getD 0).num=0
   ·refine .inr (fun j h1 h2=>?_)
    by_cases e:j=fs.length-(d+1)
    ·rw[e];exact hz
    ·exact h j (by omega) h2
   ·exact .inl ⟨fs.length-(d+1),by omega,hz,fun j h1 h2=>h j (by omega) h2⟩
rcases key fs.length (Nat.le_refl _) with h | h
·exact h
·exfalso
 rw[qdh] at hs
 rw[zpg _ (fun _=>0) fs.length (fun k hk=>Rat.num_eq_zero.1 (h k (by omega) hk)),zst] at hs
 exact absurd hs (by decide))
end Go.Proofs.YtpmjeclpkahkmaaGreatDoor
