/- The law of so many amounts together, as  -/
import Derived.Test.YtpmjeclpkahkmaaGreatDoorVK9g
namespace Go.Proofs.YtpmjeclpkahkmaaGreatDoor
set_option linter.unusedVariables false
open Go.Proofs.Tryz
open Go.RowKit
set_option maxHeartbeats 16000000
set_option maxRecDepth 100000
def fo (n:Nat):List Rat:=(List.range (n+1)).map (zda (fun _=>0) n ((1:Int):Rat))
def bh (fs:List Rat):List Rat:=(List.range fs.length).map (fun i=>fs[i]?.getD 0*(((qh 1 fs:Nat):Int):Rat))
def zao (fs:List Rat) (n:Nat):List Rat:=bi (fo n) (bh fs) (((qh 1 fs:Nat):Int):Rat) n
theorem ztz (b off cap l:Nat) (fs:List Rat) (m n c:Nat) (mx:Int) (w:World) (hv:au w (.slice (some ⟨b,off,none⟩) l cap) fs) (hN:l=fs.length) (hcap:l≤cap) (hln:fs.length≤201) (hm:m<fs.length) (h1:(fs[m]?.getD 0).num≠0) (h2:∀ j,m<j→j<fs.length→(fs[j]?.getD 0).num=0)
  (hck:jo fs=0) (hn:n≤200) (hnm:n*m≤200) (lf:∀ f ∈ fs,Len f c) (hc:c≤100)
  (htab:Lib.TabIs prog w "internal/strconv.uint64pow10" .u64 Lib.pow10Tab) (hmx:w.cell? ⟨5,0,none⟩=some (.int .i64 mx))
  (hU0:0<qh 1 (fs.take (m+1))) (hUl:Len (((qh 1 (fs.take (m+1)):Nat):Int):Rat) 1000) (hws:∀ f ∈ bh (fs.take (m+1)),Len f 500)
  (hl:∀ t,t<n+1→(bi (fo n) (bh (fs.take (m+1))) (((qh 1 (fs.take (m+1)):Nat):Int):Rat) t).length≤300∧(∀ f ∈ bi (fo n) (bh (fs.take (m+1))) (((qh 1 (fs.take (m+1)):Nat):Int):Rat) t,Len f 500)∧Len (qy (((qh 1 (fs.take (m+1)):Nat):Int):Rat) t) 1000) :
  Calls prog 25 #[.slice (some ⟨b,off,none⟩) l cap,.int .i64 (n:Int)] w fun e w'=>∃ g,e=.returned (.tuple #[.slice (some ⟨g,0,none⟩) (zao (fs.take (m+1)) n).length (zao (fs.take (m+1)) n).length,.nilIface])∧uj w' g (zao (fs.take (m+1)) n).length (zao (fs.take (m+1)) n).length (fun i=>(zao (fs.take (m+1)) n)[i]?.getD 0/(qy (((qh 1 (fs.take (m+1)):Nat):Int):Rat) n*((1:Int):Rat)))∧But [] w w':=by(
have CH:=af (zaf _ fs c w hv (by omega) lf hc)
rw[hck] at CH
have GR:=af (fun W (h:But [] w W)=>j3 _ fs m W (hv.but h) (by omega) hm h1 h2)
have SH:=af (fun W (h:But [] w W)=>zdw b off cap l fs m W (hv.but h) hN hcap (by omega) hm h1 h2)
have htl:(fs.take (m+1)).length=m+1:=by rw[List.length_take];omega
have WA:=af (fun W v' (h:But [] w W) (hv':au W v' (fs.take (m+1)))=>zch v' (fs.take (m+1)) W mx c hv' (by omega) (fun f hf=>lf f (List.mem_of_mem_take hf)) hc (TabIs.but htab h) (h.ag hmx (by simp)))
have CE:=af (zvc n (by omega))
have HL:=af hl
have HV:=af hv
clear hv lf htab hmx h1 h2 hck hl hN
go_enter func25,ntmps25
go_wp2_with fail
refine (ae CH).mono ?_
rintro e w1 ⟨rfl,hb1⟩
have B1:=af hb1
clear hb1 CH
rw[show ig 0=.nilIface from rfl]
go_wp2_with fail
refine (ae GR _ (ae B1)).mono ?_
rintro e w2 ⟨rfl,hb2⟩
have B2:=af ((ae B1).trans' hb2)
clear hb2 GR
have hp:((n:Int)*(m:Int))≤200:=by
 have h3:((n*m:Nat):Int)≤200:=by omega
 rw[Int.natCast_mul] at h3
 exact h3
have hp0:0≤((n:Int)*(m:Int)):=Int.mul_nonneg (by omega) (by omega)
have hcut:¬ (200:Int)<(n:Int)*(m:Int):=by omega
generalize hnmm:(n:Int)*(m:Int)=pnm at *
go_wp2_with fail
refine (ae CE _).mono ?_
rintro e w3 ⟨gc,sc,xc,rfl,hfc,hrc,hgc1,hgc2,hb3⟩
have B3:=af ((ae B2).trans' hb3)
have RC:=af hrc.zcq
have FC:=af hfc
clear hrc hfc hb3 CE
go_wp2_with fail
refine (ae SH _ (ae B3)).mono ?_
rintro e w4 ⟨rfl,hfs,hb4⟩
have B4:=af ((ae B3).trans' hb4)
have RC4:=af ((ae RC).but hb4)
have FS:=af hfs
clear hfs hb4 SH RC
go_wp2_with fail
refine (ae WA _ _ (ae B4) (ae FS)).mono ?_
rintro e w5 ⟨gw,sw,xw,yw,pw,rfl,hfw,hrw,hgw1,hgw2,hb5⟩
have B5:=af ((ae B4).trans' hb5)
have RC5:=af ((ae RC4).but hb5)
have hrw':=hrw.zcq
rw[htl] at hrw' ⊢
have eW:(List.range (m+1)).map (fun i=>(fs.take (m+1))[i]?.getD 0*(((qh 1 (fs.take (m+1)):Nat):Int):Rat))=bh (fs.take (m+1)):=by unfold bh;rw[htl]
rw[eW] at hrw'
have CP:=af (zgc gc 0 (n+1) (n+1) gw 0 (m+1) (m+1) sc sw xc 0 xw yw none pw (fo n) (bh (fs.take (m+1))) ((1:Int):Rat) (((qh 1 (fs.take (m+1)):Nat):Int):Rat) w5 (ae RC5) hrw' (by unfold fo;simp) (by unfold bh;simp[htl]) (Nat.le_refl _) (by omega) (ae FC w5) hfw ((zio 1 (by decide)).mono (by omega)) hUl (by omega) (by omega) (by omega) (by omega) (fun f hf=>by
  unfold fo at hf
  obtain⟨i,-,rfl⟩:=List.mem_map.1 hf
  unfold zda
  split
  ·exact (zio 1 (by decide)).mono (by omega)
  ·exact znj _ (by omega)) hws (ae HL))
rw[Nat.add_sub_cancel] at CP
clear hfw hrw hrw' hb5 WA RC4 FS
go_wp2_with fail
refine (ae CP).mono ?_
rintro e w6 ⟨vo,so,xo,yo,po,rfl,hfo,hfu,hb6⟩
have B6:=af ((ae B5).trans' hb6)
have hlt:=ae HL n (by omega)
have hune:(qy (((qh 1 (fs.take (m+1)):Nat):Int):Rat) n*((1:Int):Rat)).num≠0:=by
 have e:((1:Int):Rat)=1:=rfl
 rw[e,Rat.mul_one,(zcj _ n).1,(bk _).1]
 exact Int.ne_of_gt (Int.pow_pos (by omega))
have CC:=af (zge vo so xo yo po (zao (fs.take (m+1)) n) _ w6 hfo hfu (Nat.le_trans hlt.1 (by omega)) (fun f hf=>(hlt.2.1 f hf).mono (by omega)) (zbv hlt.2.2 (zio 1 (by decide)) _ (by omega)) hune)
obtain⟨qo,co,rfl,-,-⟩:=id hfo
clear hfo hfu hb6 CP
go_wp2_with fail
refine (ae CC).mono ?_
rintro e w7 ⟨g,rfl,hr7,-,-,hb7⟩
have R7:=af hr7
have B7:=af ((ae B6).trans' hb7)
clear hr7 hb7 CC
go_wp2
exact bodyPost_ret (v:=.tuple #[.slice (some ⟨g,0,none⟩) (zao (fs.take (m+1)) n).length (zao (fs.take (m+1)) n).length,.nilIface]) (by simp[results,results25,go_sem]) rfl ⟨g,rfl,ae R7,ae B7⟩)
def fw (fs gs:List Rat):Int:=if jo fs≠0 then jo fs else jo gs
theorem ni (va vb:Value) (fs gs:List Rat) (c:Nat) (w:World) (ha:au w va fs) (hb:au w vb gs) (hn:fs.length≤1000) (hm:gs.length≤1000) (lf:∀ f ∈ fs,Len f c) (lg:∀ f ∈ gs,Len f c) (hc:c≤100) :
  Calls prog 99 #[va,vb] w fun e w'=>e=.returned (ig (fw fs gs))∧But [] w w':=by(
have CA:=af (zaf va fs c w ha hn lf hc)
have CB:=af (fun W (h:But [] w W)=>zaf vb gs c W (hb.but h) hm lg hc)
obtain⟨q,cap,rfl,-,-⟩:=id ha
obtain⟨q',cap',rfl,-,-⟩:=id hb
obtain⟨be,hbe⟩:∃ be,be=fw fs gs:=⟨_,rfl⟩
rw[← hbe]
unfold fw at hbe
obtain⟨ca,hca⟩:∃ ca,ca=jo fs:=⟨_,rfl⟩
obtain⟨cb,hcb⟩:∃ cb,cb=jo gs:=⟨_,rfl⟩
rw[← hca] at CA hbe
rw[← hcb] at CB hbe
have HBE:=af hbe
clear ha hb hca hcb hbe
go_enter func99,ntmps99
go_wp2_with fail
refine (ae CA).mono ?_
rintro e w1 ⟨rfl,hb1⟩
have B1:=af hb1
clear hb1 CA
by_cases h0:ca=0
·(
obtain rfl:be=cb:=by rw[ae HBE,if_neg (by simpa using h0)]
rw[h0,show ig 0=.nilIface from rfl]
go_wp2_with fail
refine (ae CB _ (ae B1)).mono ?_
rintro e w2 ⟨rfl,hb2⟩
have B2:=af ((ae B1).trans' hb2)
clear hb2
obtain⟨ev,hev⟩:∃ ev,ev=ig be:=⟨_,rfl⟩
rw[← hev]
have HEV:=af hev
clear hev
go_wp2
go_ret
exact⟨congrArg _ (ae HEV),ae B2⟩)
·(
obtain rfl:be=ca:=by rw[ae HBE,if_pos h0]
obtain⟨ev,hev⟩:∃ ev,ev=ig be:=⟨_,rfl⟩
have hev2:ev=.iface 33 (.int .i64 be):=by rw[hev];unfold ig;rw[if_neg h0]
rw[← hev,hev2]
have HEV:=af (hev2.symm.trans hev)
clear hev hev2
go_wp2
go_ret
exact⟨congrArg _ (ae HEV),ae B1⟩))
theorem zjd (va vb:Value) (fs gs:List Rat) (c:Nat) (w:World) (ha:au w va fs) (hb:au w vb gs) (hn:fs.length≤1000) (hm:gs.length≤1000) (lf:∀ f ∈ fs,Len f c) (lg:∀ f ∈ gs,Len f c) (hc:c≤100) (hne:fw fs gs≠0) :
  Calls prog 23 #[va,vb] w fun e w'=>e=.returned (.tuple #[.slice none 0 0,.iface 33 (.int .i64 (fw fs gs))])∧But [] w w':=by(
have CH:=af (ni va vb fs gs c w ha hb hn hm lf lg hc)
obtain⟨q,cap,rfl,-,-⟩:=id ha
obtain⟨q',cap',rfl,-,-⟩:=id hb
rw[show ig (fw fs gs)=.iface 33 (.int .i64 (fw fs gs)) from by unfold ig;rw[if_neg hne]] at CH
generalize fw fs gs=z at *
clear ha hb lf lg hne
go_enter func23,ntmps23
go_wp2_with fail
refine (ae CH).mono ?_
rintro e w1 ⟨rfl,hb1⟩
have B1:=af hb1
clear hb1 CH
go_wp2
exact bodyPost_ret (v:=.tuple #[.slice none 0 0,.iface 33 (.int .i64 z)]) (by simp[results,results23,go_sem]) rfl ⟨rfl,ae B1⟩)
theorem zuy (nb nf nc nl b off cap l:Nat) (ns fs:List Rat) (k m c:Nat) (mx:Int) (w:World) (hns:au w (.slice (some ⟨nb,nf,none⟩) nl nc) ns) (hNl:nl=ns.length) (hncap:nl≤nc) (hln2:ns.length≤201) (hk:k<ns.length) (n1:(ns[k]?.getD 0).num≠0) (n2:∀ j,k<j→j<ns.length→(ns[j]?.getD 0).num=0)
  (hv:au w (.slice (some ⟨b,off,none⟩) l cap) fs) (hN:l=fs.length) (hcap:l≤cap) (hln:fs.length≤201) (hm:m<fs.length) (h1:(fs[m]?.getD 0).num≠0) (h2:∀ j,m<j→j<fs.length→(fs[j]?.getD 0).num=0)
  (hck:fw ns fs=0) (hkm:k*m≤200) (ln:∀ f ∈ ns,Len f c) (lf:∀ f ∈ fs,Len f c) (hc:c≤100)
  (htab:Lib.TabIs prog w "internal/strconv.uint64pow10" .u64 Lib.pow10Tab) (hmx:w.cell? ⟨5,0,none⟩=some (.int .i64 mx))
  (hU0:0<qh 1 (fs.take (m+1))) (hUN:0<qh 1 (ns.take (k+1))) (hUl:Len (((qh 1 (fs.take (m+1)):Nat):Int):Rat) 1000) (hUNl:Len (((qh 1 (ns.take (k+1)):Nat):Int):Rat) 1000) (hws:∀ f ∈ bh (fs.take (m+1)),Len f 500) (hwn:∀ f ∈ bh (ns.take (k+1)),Len f 500)
  (hl:∀ t,t<k+1→(bi (bh (ns.take (k+1))) (bh (fs.take (m+1))) (((qh 1 (fs.take (m+1)):Nat):Int):Rat) t).length≤300∧(∀ f ∈ bi (bh (ns.take (k+1))) (bh (fs.take (m+1))) (((qh 1 (fs.take (m+1)):Nat):Int):Rat) t,Len f 500)∧Len (qy (((qh 1 (fs.take (m+1)):Nat):Int):Rat) t) 1000) :
  Calls prog 23 #[.slice (some ⟨nb,nf,none⟩) nl nc,.slice (some ⟨b,off,none⟩) l cap] w fun e w'=>∃ g,e=.returned (.tuple #[.slice (some ⟨g,0,none⟩) (bi (bh (ns.take (k+1))) (bh (fs.take (m+1))) (((qh 1 (fs.take (m+1)):Nat):Int):Rat) k).length (bi (bh (ns.take (k+1))) (bh (fs.take (m+1))) (((qh 1 (fs.take (m+1)):Nat):Int):Rat) k).length,.nilIface])∧uj w' g (bi (bh (ns.take (k+1))) (bh (fs.take (m+1))) (((qh 1 (fs.take (m+1)):Nat):Int):Rat) k).length (bi (bh (ns.take (k+1))) (bh (fs.take (m+1))) (((qh 1 (fs.take (m+1)):Nat):Int):Rat) k).length (fun i=>(bi (bh (ns.take (k+1))) (bh (fs.take (m+1))) (((qh 1 (fs.take (m+1)):Nat):Int):Rat) k)[i]?.getD 0/(qy (((qh 1 (fs.take (m+1)):Nat):Int):Rat) k*(((qh 1 (ns.take (k+1)):Nat):Int):Rat)))∧But [] w w':=by(
have CH:=af (ni _ _ ns fs c w hns hv (by omega) (by omega) ln lf hc)
rw[hck] at CH
have GN:=af (fun W (h:But [] w W)=>j3 _ ns k W (hns.but h) (by omega) hk n1 n2)
have GR:=af (fun W (h:But [] w W)=>j3 _ fs m W (hv.but h) (by omega) hm h1 h2)
have SN:=af (fun W (h:But [] w W)=>zdw nb nf nc nl ns k W (hns.but h) hNl hncap (by omega) hk n1 n2)
have SH:=af (fun W (h:But [] w W)=>zdw b off cap l fs m W (hv.but h) hN hcap (by omega) hm h1 h2)
have htl:(fs.take (m+1)).length=m+1:=by rw[List.length_take];omega
have htn:(ns.take (k+1)).length=k+1:=by rw[List.length_take];omega
have WN:=af (fun W v' (h:But [] w W) (hv':au W v' (ns.take (k+1)))=>zch v' (ns.take (k+1)) W mx c hv' (by omega) (fun f hf=>ln f (List.mem_of_mem_take hf)) hc (TabIs.but htab h) (h.ag hmx (by simp)))
have WA:=af (fun W v' (h:But [] w W) (hv':au W v' (fs.take (m+1)))=>zch v' (fs.take (m+1)) W mx c hv' (by omega) (fun f hf=>lf f (List.mem_of_mem_take hf)) hc (TabIs.but htab h) (h.ag hmx (by simp)))
have HL:=af hl
clear hns hv ln lf htab hmx h1 h2 n1 n2 hck hl hN hNl
go_enter func23,ntmps23
go_wp2_with fail
refine (ae CH).mono ?_
rintro e w1 ⟨rfl,hb1⟩
have B1:=af hb1
clear hb1 CH
rw[show ig 0=.nilIface from rfl]
go_wp2_with fail
refine (ae GN _ (ae B1)).mono ?_
rintro e w2 ⟨rfl,hb2⟩
have B2:=af ((ae B1).trans' hb2)
clear hb2 GN
go_wp2_with fail
refine (ae GR _ (ae B2)).mono ?_
rintro e w3 ⟨rfl,hb3⟩
have B3:=af ((ae B2).trans' hb3)
clear hb3 GR
have hp:((k:Int)*(m:Int))≤200:=by
 have h3:((k*m:Nat):Int)≤200:=by omega
 rw[Int.natCast_mul] at h3
 exact h3
have hp0:0≤((k:Int)*(m:Int)):=Int.mul_nonneg (by omega) (by omega)
have hcut:¬ (200:Int)<(k:Int)*(m:Int):=by omega
generalize hnmm:(k:Int)*(m:Int)=pnm at *
go_wp2_with fail
refine (ae SN _ (ae B3)).mono ?_
rintro e w4 ⟨rfl,hfn,hb4⟩
have B4:=af ((ae B3).trans' hb4)
have FN:=af hfn
clear hfn hb4 SN
go_wp2_with fail
refine (ae WN _ _ (ae B4) (ae FN)).mono ?_
rintro e w5 ⟨gn,sn,xn,yn,pn,rfl,hfn,hrn,hgn1,hgn2,hb5⟩
have B5:=af ((ae B4).trans' hb5)
have hrn':=hrn.zcq
rw[htn] at hrn' ⊢
have eN:(List.range (k+1)).map (fun i=>(ns.take (k+1))[i]?.getD 0*(((qh 1 (ns.take (k+1)):Nat):Int):Rat))=bh (ns.take (k+1)):=by unfold bh;rw[htn]
rw[eN] at hrn'
have RN:=af hrn'
have FUN:=af hfn
clear hfn hrn hrn' hb5 WN FN
go_wp2_with fail
refine (ae SH _ (ae B5)).mono ?_
rintro e w6 ⟨rfl,hfs,hb6⟩
have B6:=af ((ae B5).trans' hb6)
have RN6:=af ((ae RN).but hb6)
have FUN6:=af ((ae FUN).but hb6)
have FS:=af hfs
clear hfs hb6 SH RN FUN
go_wp2_with fail
refine (ae WA _ _ (ae B6) (ae FS)).mono ?_
rintro e w7 ⟨gw,sw,xw,yw,pw,rfl,hfw,hrw,hgw1,hgw2,hb7⟩
have B7:=af ((ae B6).trans' hb7)
have RN7:=af ((ae RN6).but hb7)
have FUN7:=af ((ae FUN6).but hb7)
have hrw':=hrw.zcq
rw[htl] at hrw' ⊢
have eW:(List.range (m+1)).map (fun i=>(fs.take (m+1))[i]?.getD 0*(((qh 1 (fs.take (m+1)):Nat):Int):Rat))=bh (fs.take (m+1)):=by unfold bh;rw[htl]
rw[eW] at hrw'
have CP:=af (zgc gn 0 (k+1) (k+1) gw 0 (m+1) (m+1) sn sw xn yn xw yw pn pw (bh (ns.take (k+1))) (bh (fs.take (m+1))) (((qh 1 (ns.take (k+1)):Nat):Int):Rat) (((qh 1 (fs.take (m+1)):Nat):Int):Rat) w7 (ae RN7) hrw' (by unfold bh;simp[htn]) (by unfold bh;simp[htl]) (Nat.le_refl _) (by omega) (ae FUN7) hfw hUNl hUl (by omega) (by omega) (by omega) (by omega) hwn hws (ae HL))
rw[Nat.add_sub_cancel] at CP
clear hfw hrw hrw' hb7 WA RN6 FUN6 FS RN7 FUN7
go_wp2_with fail
refine (ae CP).mono ?_
rintro e w8 ⟨vo,so,xo,yo,po,rfl,hfo,hfu,hb8⟩
have B8:=af ((ae B7).trans' hb8)
have hlt:=ae HL k (by omega)
have hune:(qy (((qh 1 (fs.take (m+1)):Nat):Int):Rat) k*(((qh 1 (ns.take (k+1)):Nat):Int):Rat)).num≠0:=fun h=>by
 have h1:=Rat.num_eq_zero.1 h
 rcases Rat.mul_eq_zero.1 h1 with h2 | h2
 ·have h3:(qy (((qh 1 (fs.take (m+1)):Nat):Int):Rat) k).num=0:=by rw[h2];rfl
  rw[(zcj _ k).1,(bk _).1] at h3
  exact Int.ne_of_gt (Int.pow_pos (by omega)) h3
 ·have:=Rat.intCast_eq_zero_iff.1 h2
  omega
have CC:=af (zge vo so xo yo po (bi (bh (ns.take (k+1))) (bh (fs.take (m+1))) (((qh 1 (fs.take (m+1)):Nat):Int):Rat) k) _ w8 hfo hfu (Nat.le_trans hlt.1 (by omega)) (fun f hf=>(hlt.2.1 f hf).mono (by omega)) ((zbv hlt.2.2 hUNl 2000 (by omega)).mono (by omega)) hune)
obtain⟨qo,co,rfl,-,-⟩:=id hfo
clear hfo hfu hb8 CP
go_wp2_with fail
refine (ae CC).mono ?_
rintro e w9 ⟨g,rfl,hr9,-,-,hb9⟩
have R9:=af hr9
have B9:=af ((ae B8).trans' hb9)
clear hr9 hb9 CC
go_wp2
exact bodyPost_ret (v:=.tuple #[.slice (some ⟨g,0,none⟩) (bi (bh (ns.take (k+1))) (bh (fs.take (m+1))) (((qh 1 (fs.take (m+1)):Nat):Int):Rat) k).length (bi (bh (ns.take (k+1))) (bh (fs.take (m+1))) (((qh 1 (fs.take (m+1)):Nat):Int):Rat) k).length,.nilIface]) (by simp[results,results23,go_sem]) rfl ⟨g,rfl,ae R9,ae B9⟩)
end Go.Proofs.YtpmjeclpkahkmaaGreatDoor
