/- Whether a line may be, as the Go text of -/
import Derived.Test.YtjlfllhedceigaaGreatDoorProg
import Derived.Laws.MakeOwn
import Derived.Test.YtjlfllhedceigaaGreatDoorRXO
namespace Go.Proofs.YtjlfllhedceigaaGreatDoor
open Go.Proofs.Tryz
open Go.RowKit
set_option maxHeartbeats 16000000
set_option maxRecDepth 100000
structure Ln where
 kd:Int
 f:Rat
 fr:Int
 li:Int
 ti:Int
 pr:Int
 toB:ByteArray
def zln (l:Ln):Prop:=(l.kd=1→(0≤l.f∧l.f≤1)∧l.fr=0∧l.li=0∧l.ti=0∧l.pr=0)∧(l.kd=2→1≤l.li∧l.f.num=0∧l.fr=0∧l.pr=0)∧(l.kd=3→1≤l.li∧l.f.num=0)∧(l.kd=4→l.f.num=0∧l.ti=0∧l.pr=0)
def zmj (l:Ln):Prop:=(1≤l.kd∧l.kd≤4)∧qd l.toB∧qg l.fr l.li l.ti l.pr∧zln l
def qgp (w:World) (b o:Nat) (l:Ln):Prop:=∃ s x y p,(w.cell? ⟨b,o,none⟩=some (.int .i64 l.kd)∧w.cell? ⟨b,o+1,none⟩=some (.bool s)∧w.cell? ⟨b,o+2,none⟩=some (.int .u64 x)∧w.cell? ⟨b,o+3,none⟩=some (.int .u64 y)∧w.cell? ⟨b,o+4,none⟩=some (.pointer p)∧w.cell? ⟨b,o+5,none⟩=some (.int .i64 l.fr)∧w.cell? ⟨b,o+6,none⟩=some (.int .i64 l.li)∧w.cell? ⟨b,o+7,none⟩=some (.int .i64 l.ti)∧w.cell? ⟨b,o+8,none⟩=some (.int .i64 l.pr)∧w.cell? ⟨b,o+9,none⟩=some (.string l.toB))∧am w (.agg #[.bool s,.int .u64 x,.int .u64 y,.pointer p]) l.f
theorem qgp.but {w w':World} {b o:Nat} {l:Ln} (h:qgp w b o l) (hb:But [] w w'):qgp w' b o l:=by
 obtain⟨s,x,y,p,⟨c0,c1,c2,c3,c4,c5,c6,c7,c8,c9⟩,hf⟩:=h
 exact⟨s,x,y,p,⟨hb.ag c0 (by simp),hb.ag c1 (by simp),hb.ag c2 (by simp),hb.ag c3 (by simp),hb.ag c4 (by simp),hb.ag c5 (by simp),hb.ag c6 (by simp),hb.ag c7 (by simp),hb.ag c8 (by simp),hb.ag c9 (by simp)⟩,hf.but hb⟩
def zce (w:World) (v:Value) (ls:List Ln):Prop:=∃ a cap,v=.slice a ls.length cap∧ls.length≤cap∧∀ i l,ls[i]? = some l→∃ b off,a=some ⟨b,off,none⟩∧qgp w b (off+i*10) l
theorem zce.but {w w':World} {v:Value} {ls:List Ln} (h:zce w v ls) (hb:But [] w w'):zce w' v ls:=by(
 obtain⟨a,cap,e,hc,h⟩:=h
 refine⟨a,cap,e,hc,fun i l hl=>?_⟩
 obtain⟨b,off,e1,h1⟩:=h i l hl
 exact⟨b,off,e1,h1.but hb⟩)
def qgl (ls:List Ln) (k:Nat):Prop:=∀ i l,i<k→ls[i]? = some l→zmj l∧∀ j m,j+1=i→ls[j]? = some m→m.kd=4→l.kd=4
open Go.RowKit Go.Shelf
set_option linter.unusedVariables false
open Classical in
noncomputable def lnE (l:Ln):Int:=if l.kd<1∨4<l.kd then 1 else if ¬ qd l.toB then 5 else if ¬ qg l.fr l.li l.ti l.pr then 2 else if ¬ zln l then 1 else 0
theorem xu (l:Ln):lnE l=0↔zmj l:=by(
 unfold lnE zmj
 by_cases h1:l.kd<1∨4<l.kd
 ·rw[if_pos h1];exact⟨fun h=>absurd h (by omega),fun h=>by have:=h.1;omega⟩
 ·(
 rw[if_neg h1]
 by_cases h2:qd l.toB
 ·(
 rw[if_neg (fun h=>h h2)]
 by_cases h3:qg l.fr l.li l.ti l.pr
 ·rw[if_neg (fun h=>h h3)]
  by_cases h4:zln l
  ·rw[if_neg (fun h=>h h4)];exact⟨fun _=>⟨by omega,h2,h3,h4⟩,fun _=>rfl⟩
  ·rw[if_pos h4];exact⟨fun h=>absurd h (by omega),fun h=>absurd h.2.2.2 h4⟩
 ·rw[if_pos h3];exact⟨fun h=>absurd h (by omega),fun h=>absurd h.2.2.1 h3⟩)
 ·rw[if_pos h2];exact⟨fun h=>absurd h (by omega),fun h=>absurd h.2.1 h2⟩))
open Classical in
noncomputable def trA (ls:List Ln) (i:Nat):Int:=match ls[i]? with
 | none=>0
 | some l=>if lnE l≠0 then lnE l else if ∃ j m,j+1=i∧ls[j]? = some m∧m.kd=4∧l.kd≠4 then 12 else 0
noncomputable def trE (ls:List Ln):Nat→Int
 | 0=>0
 | k+1=>if trE ls k≠0 then trE ls k else trA ls k
theorem zpl (ls:List Ln) (k:Nat) (h:trE ls k≠0):∀ d,trE ls (k+d)=trE ls k
 | 0=>rfl
 | d+1=>by
  have ih:=zpl ls k h d
  show (if trE ls (k+d)≠0 then trE ls (k+d) else trA ls (k+d))=_
  rw[ih,if_pos h]
theorem zde (ls:List Ln) (k n:Nat) (h0:trE ls k=0) (h:trA ls k≠0) (hk:k<n):trE ls n=trA ls k:=by(
 have e:trE ls (k+1)=trA ls k:=by
  show (if trE ls k≠0 then trE ls k else trA ls k)=_
  rw[if_neg (fun h=>h h0)]
 obtain⟨d,rfl⟩:∃ d,n=k+1+d:=⟨n-(k+1),by omega⟩
 rw[zpl ls (k+1) (by rw[e];exact h) d,e])
theorem zpm (ls:List Ln) (k:Nat) (h0:trE ls k=0) (h:trA ls k=0):trE ls (k+1)=0:=by
 show (if trE ls k≠0 then trE ls k else trA ls k)=_
 rw[if_neg (fun x=>x h0),h]
theorem zjm (ls:List Ln) (k:Nat) (l:Ln) (hg:ls[k]? = some l) (h:lnE l≠0):trA ls k=lnE l:=by(
 unfold trA
 rw[hg]
 exact if_pos h)
open Classical in
theorem zgc (ls:List Ln) (k j:Nat) (l m:Ln) (hg:ls[k]? = some l) (h:lnE l=0) (hj:j+1=k) (hm:ls[j]? = some m) (h4:m.kd=4) (h5:l.kd≠4):trA ls k=12:=by(
 unfold trA
 rw[hg]
 show (if lnE l≠0 then lnE l else if ∃ j m,j+1=k∧ls[j]? = some m∧m.kd=4∧l.kd≠4 then 12 else 0)=(12:Int)
 rw[if_neg (fun x=>x h),if_pos ⟨j,m,hj,hm,h4,h5⟩])
open Classical in
theorem zpn (ls:List Ln) (k:Nat) (l:Ln) (hg:ls[k]? = some l) (h:lnE l=0) (ho:∀ j m,j+1=k→ls[j]? = some m→m.kd=4→l.kd=4):trA ls k=0:=by(
 unfold trA
 rw[hg]
 show (if lnE l≠0 then lnE l else if ∃ j m,j+1=k∧ls[j]? = some m∧m.kd=4∧l.kd≠4 then 12 else 0)=(0:Int)
 rw[if_neg (fun x=>x h),if_neg (fun ⟨j,m,hj,hm,h4,h5⟩=>h5 (ho j m hj hm h4))])
theorem zyj (ls:List Ln):∀ k,k≤ls.length→trE ls k=0→qgl ls k
 | 0,_,_=>fun i l hi=>absurd hi (by omega)
 | k+1,hk,h=>by
  have h':(if trE ls k≠0 then trE ls k else trA ls k)=0:=h
  have h0:trE ls k=0:=by
   by_cases h0:trE ls k=0
   ·exact h0
   ·rw[if_pos h0] at h';exact absurd h' h0
  rw[if_neg (fun x=>x h0)] at h'
  have ih:=zyj ls k (by omega) h0
  intro i l hi hl
  rcases Nat.lt_or_ge i k with hlt | hge
  ·exact ih i l hlt hl
  ·obtain rfl:i=k:=by omega
   have hl0:lnE l=0:=by
    by_cases hz:lnE l=0
    ·exact hz
    ·rw[zjm ls i l hl hz] at h';exact absurd h' hz
   refine⟨(xu l).1 hl0,fun j m hj hm h4=>?_⟩
   by_cases h5:l.kd=4
   ·exact h5
   ·rw[zgc ls i j l m hl hl0 hj hm h4 h5] at h';exact absurd h' (by omega)
theorem zok (l:Ln) (s:Bool) (x y:Int) (p:Option Addr) (w:World) (hf:am w (.agg #[.bool s,.int .u64 x,.int .u64 y,.pointer p]) l.f) (lf:Len l.f 1) (hbig:l.toB.size<9223372036854775808) :
   Calls prog 72 #[zh l.kd s x y p l.fr l.li l.ti l.pr l.toB] w fun e w'=>e=.returned (zei (lnE l))∧But [] w w':=by(
 have set:∀ (z:Int),lnE l=z→(Calls prog 72 #[zh l.kd s x y p l.fr l.li l.ti l.pr l.toB] w fun e w'=>e=.returned (zei z)∧But [] w w')→(Calls prog 72 #[zh l.kd s x y p l.fr l.li l.ti l.pr l.toB] w fun e w'=>e=.returned (zei (lnE l))∧But [] w w'):=fun z hz h=>by rw[hz];exact h
 obtain⟨kd,f,fr,li,ti,pr,toB⟩:=l
 by_cases hk:kd<1∨4<kd
 ·exact set 1 (by unfold lnE;exact if_pos hk) (zkv kd s x y p fr li ti pr toB w hk)
 ·(
 have k1:¬ kd<1:=fun h=>hk (.inl h)
 have k2:¬ 4<kd:=fun h=>hk (.inr h)
 by_cases hn:qd toB
 ·(
 by_cases r1:0≤fr∧fr≤1000000000000
 ·(
 by_cases r2:0≤li∧li≤1000000000000
 ·(
 by_cases r3:0≤pr∧pr≤1000000000000
 ·(
 by_cases r4:0≤ti∧ti≤100
 ·(
 have hr:qg fr li ti pr:=⟨r1,r2,r3,r4⟩
 have hkk:kd=1∨kd=2∨kd=3∨kd=4:=by omega
 rcases hkk with rfl|rfl|rfl|rfl
 ·(
 by_cases h1:0≤f∧f≤1
 ·by_cases h2:fr=0∧li=0∧ti=0∧pr=0
  ·exact set 0 ((xu _).2 ⟨⟨by simp,by simp⟩,hn,hr,fun _=>⟨h1,h2⟩,fun h=>absurd h (by simp),fun h=>absurd h (by simp),fun h=>absurd h (by simp)⟩) (zme s x y p fr li ti pr toB f w hf lf hn hr h1 h2)
  ·exact set 1 (by unfold lnE;rw[if_neg hk,if_neg (fun h=>h hn),if_neg (fun h=>h hr)];exact if_pos (fun h=>h2 (h.1 rfl).2)) (zks s x y p fr li ti pr toB f w hf lf hn hr h1 h2)
 ·exact set 1 (by unfold lnE;rw[if_neg hk,if_neg (fun h=>h hn),if_neg (fun h=>h hr)];exact if_pos (fun h=>h1 (h.1 rfl).1)) (zkt s x y p fr li ti pr toB f w hf lf hn hr h1))
 ·(
 by_cases h1:1≤li
 ·by_cases h2:f.num=0∧fr=0∧pr=0
  ·exact set 0 ((xu _).2 ⟨⟨by simp,by simp⟩,hn,hr,fun h=>absurd h (by simp),fun _=>⟨h1,h2⟩,fun h=>absurd h (by simp),fun h=>absurd h (by simp)⟩) (zmd s x y p fr li ti pr toB f w hf lf hn hr h1 h2)
  ·exact set 1 (by unfold lnE;rw[if_neg hk,if_neg (fun h=>h hn),if_neg (fun h=>h hr)];exact if_pos (fun h=>h2 (h.2.1 rfl).2)) (zkq s x y p fr li ti pr toB f w hf lf hn hr h1 h2)
 ·exact set 1 (by unfold lnE;rw[if_neg hk,if_neg (fun h=>h hn),if_neg (fun h=>h hr)];exact if_pos (fun h=>h1 (h.2.1 rfl).1)) (zkr s x y p fr li ti pr toB f w hf lf hn hr h1))
 ·(
 by_cases h1:1≤li
 ·by_cases h2:f.num=0
  ·exact set 0 ((xu _).2 ⟨⟨by simp,by simp⟩,hn,hr,fun h=>absurd h (by simp),fun h=>absurd h (by simp),fun _=>⟨h1,h2⟩,fun h=>absurd h (by simp)⟩) (zij s x y p fr li ti pr toB f w hf lf hn hr h1 h2)
  ·exact set 1 (by unfold lnE;rw[if_neg hk,if_neg (fun h=>h hn),if_neg (fun h=>h hr)];exact if_pos (fun h=>h2 (h.2.2.1 rfl).2)) (zgq s x y p fr li ti pr toB f w hf lf hn hr h1 h2)
 ·exact set 1 (by unfold lnE;rw[if_neg hk,if_neg (fun h=>h hn),if_neg (fun h=>h hr)];exact if_pos (fun h=>h1 (h.2.2.1 rfl).1)) (zgr s x y p fr li ti pr toB f w hf lf hn hr h1))
 ·by_cases h2:f.num=0∧ti=0∧pr=0
  ·exact set 0 ((xu _).2 ⟨⟨by simp,by simp⟩,hn,hr,fun h=>absurd h (by simp),fun h=>absurd h (by simp),fun h=>absurd h (by simp),fun _=>h2⟩) (zkw s x y p fr li ti pr toB f w hf lf hn hr h2)
  ·exact set 1 (by unfold lnE;rw[if_neg hk,if_neg (fun h=>h hn),if_neg (fun h=>h hr)];exact if_pos (fun h=>h2 (h.2.2.2 rfl))) (zik s x y p fr li ti pr toB f w hf lf hn hr h2))
 ·exact set 2 (by unfold lnE;rw[if_neg hk,if_neg (fun h=>h hn)];exact if_pos (fun h=>r4 h.2.2.2)) (zgs kd s x y p fr li ti pr toB w k1 k2 hn r1 r2 r3 r4))
 ·exact set 2 (by unfold lnE;rw[if_neg hk,if_neg (fun h=>h hn)];exact if_pos (fun h=>r3 h.2.2.1)) (zgt kd s x y p fr li ti pr toB w k1 k2 hn r1 r2 r3))
 ·exact set 2 (by unfold lnE;rw[if_neg hk,if_neg (fun h=>h hn)];exact if_pos (fun h=>r2 h.2.1)) (zgu kd s x y p fr li ti pr toB w k1 k2 hn r1 r2))
 ·exact set 2 (by unfold lnE;rw[if_neg hk,if_neg (fun h=>h hn)];exact if_pos (fun h=>r1 h.1)) (zgv kd s x y p fr li ti pr toB w k1 k2 hn r1))
 ·exact set 5 (by unfold lnE;rw[if_neg hk];exact if_pos hn) (zku kd s x y p fr li ti pr toB w k1 k2 hn hbig)))
theorem zjl (v:Value) (ls:List Ln) (w:World) (hv:zce w v ls) (hn:ls.length≤40) (lf:∀ l ∈ ls,Len l.f 1) (hbig:∀ l ∈ ls,l.toB.size<9223372036854775808) :
   Calls prog 20 #[v] w fun e w'=>e=.returned (zei (trE ls ls.length))∧But [] w w':=by(
 obtain⟨a,cap,rfl,hcap,hc⟩:=hv
 have HC:=af hc
 have HL:=af lf
 have HG:=af hbig
 generalize hnn:ls.length=n at *
 have HN:=af hnn
 clear hc hnn lf hbig
 go_enter func20,ntmps20
 go_wp2
 go_loopw [12] (fun i wr=>∃ k:Nat,k≤n∧i=.int .i64 (k:Int)∧Hid (trE ls k=0)∧Hid (But [] w wr)) (fun i _=>n-(intOf i).toNat)
 case atStart=>exact⟨0,Nat.zero_le _,rfl,rfl,But.refl _ _⟩
 case round =>(
 obtain⟨k,hk,rfl,HO,HB⟩:=hrel
 rename World=>wr
 by_cases hlt:k<n
 ·(
 have hkl:k<ls.length:=by have:=ae HN;omega
 have hge:ls[k]? = some ls[k]:=List.getElem?_eq_getElem hkl
 have hmem:ls[k] ∈ ls:=List.getElem_mem hkl
 obtain⟨b,off,rfl,hat⟩:=ae HC k _ hge
 have hl1:=ae HL _ hmem
 have hg1:=ae HG _ hmem
 obtain⟨l,hl⟩:∃ l,l=ls[k]:=⟨_,rfl⟩
 rw[← hl] at hge hat hl1 hg1
 obtain⟨s,x,y,p,⟨c0,c1,c2,c3,c4,c5,c6,c7,c8,c9⟩,hf⟩:=hat.but (ae HB)
 have HGE:=af hge
 have bA:=af ((ae HB).alloc (.cells #[.int .i64 l.kd,.bool s,.int .u64 x,.int .u64 y,.pointer p,.int .i64 l.fr,.int .i64 l.li,.int .i64 l.ti,.int .i64 l.pr,.string l.toB] 77))
 have CK:=af (fun W (h:But [] wr W)=>zok l s x y p W (hf.but h) hl1 hg1)
 unfold zh at CK
 clear hge hmem hat hf hl1 hg1 hl
 go_wp2_with fail
 refine (ae CK _ ((But.refl _ _).alloc _)).mono ?_
 rintro e w1 ⟨rfl,hb1⟩
 have bw1:=((But.refl [] wr).alloc (.cells #[.int .i64 l.kd,.bool s,.int .u64 x,.int .u64 y,.pointer p,.int .i64 l.fr,.int .i64 l.li,.int .i64 l.ti,.int .i64 l.pr,.string l.toB] 77)).trans' hb1
 have B1:=af ((ae HB).trans' bw1)
 have d0:w1.cell? ⟨wr.heap.size,0,none⟩=some (.int .i64 l.kd):=hb1.ag (by simp) (by simp)
 generalize wr.heap.size=g4 at d0 ⊢
 have hstep:zmj l→(∀ j m,j+1=k→ls[j]? = some m→m.kd=4→l.kd=4)→trE ls (k+1)=0:=fun h1 h2=>zpm ls k (ae HO) (zpn ls k l (ae HGE) ((xu l).2 h1) h2)
 have HST:=af hstep
 have HLT:Hid (k<ls.length):=by show _<_;have:=ae HN;omega
 clear hb1 bw1 CK bA c0 c1 c2 c3 c4 c5 c6 c7 c8 c9 hstep
 by_cases hlo:zmj l
 ·(
 have hz0:=(xu l).2 hlo
 have HZ0:=af hz0
 rw[show zei (lnE l)=.nilIface from by rw[hz0];rfl]
 clear hz0
 by_cases hk0:k=0
 ·have hk0':¬ (0:Int)<(k:Int):=by omega
  have HT:=af (ae HST hlo (fun j m hj=>absurd hj (by omega)))
  go_wp2
  exact⟨⟨k+1,by omega,by go_num,ae HT,ae B1⟩,by simp[intOf];omega⟩
 ·(
 have hk0':(0:Int)<(k:Int):=by omega
 have hkp:k-1<ls.length:=by have:=ae HLT;omega
 obtain⟨b',off',eb,hat'⟩:=ae HC (k-1) _ (List.getElem?_eq_getElem hkp)
 simp only[Option.some.injEq,Addr.mk.injEq,and_true] at eb
 obtain⟨rfl,rfl⟩:=eb
 obtain⟨m,hm⟩:∃ m,m=ls[k-1]:=⟨_,rfl⟩
 rw[← hm] at hat'
 obtain⟨-,-,-,-,⟨e0,-⟩,-⟩:=hat'.but (ae B1)
 have hmg:ls[k-1]? = some m:=by rw[hm];exact List.getElem?_eq_getElem hkp
 obtain⟨q,hq⟩:∃ q:Nat,(k:Int)-1=(q:Int):=⟨k-1,by omega⟩
 have hqk:k-1=q:=by omega
 rw[hqk] at e0 hmg
 have hqn:q<n:=by omega
 have HMG:=af hmg
 have HQK:Hid (q+1=k):=by show _=_;omega
 clear hat' hm hmg hqk hkp
 by_cases h4:m.kd=4
 ·(
 by_cases h5:l.kd=4
 ·have HT:=af (ae HST hlo (fun _ _ _ _ _=>h5))
  go_wp2
  exact⟨⟨k+1,by omega,by go_num,ae HT,ae B1⟩,by simp[intOf];omega⟩
 ·(
 have h4b:(m.kd==4)=true:=by rw[h4];rfl
 have h5b:(l.kd==4)=false:=beq_eq_false_iff_ne.2 h5
 go_wp2
 go_ret
 have ha:=zgc ls k q l m (ae HGE) (ae HZ0) (ae HQK) (ae HMG) h4 h5
 exact⟨by rw[zde ls k n (ae HO) (by rw[ha];omega) hlt,ha];rfl,ae B1⟩))
 ·(
 have h4b:(m.kd==4)=false:=beq_eq_false_iff_ne.2 h4
 have HT:=af (ae HST hlo (fun j m' hj hm'=>by
  obtain rfl:j=q:=by have:=ae HQK;omega
  rw[ae HMG] at hm'
  obtain rfl:=Option.some.inj hm'
  exact fun h=>absurd h h4))
 go_wp2
 exact⟨⟨k+1,by omega,by go_num,ae HT,ae B1⟩,by simp[intOf];omega⟩)))
 ·(
 have hz:lnE l≠0:=fun h=>hlo ((xu l).1 h)
 have HZ:=af hz
 obtain⟨z,hzz⟩:∃ z,z=lnE l:=⟨_,rfl⟩
 rw[← hzz] at hz ⊢
 have HZZ:=af hzz
 rw[show zei z=.iface 33 (.int .i64 z) from if_neg hz]
 clear hzz hz HST
 go_wp2
 go_ret
 have ha:=zjm ls k l (ae HGE) (ae HZ)
 exact⟨by rw[zde ls k n (ae HO) (by rw[ha];exact ae HZ) hlt,ha,← ae HZZ];exact congrArg _ (if_neg (by rw[ae HZZ];exact ae HZ)).symm,ae B1⟩))
 ·obtain rfl:k=n:=by omega
  go_wp2
  go_ret
  exact⟨by rw[ae HO];rfl,ae HB⟩))
theorem zie (q:Option Addr) (n c:Nat) (w:World) (hn:40<n) :
   Calls prog 20 #[.slice q n c] w fun e w'=>e=.returned (.iface 33 (.int .i64 4))∧But [] w w':=by(
 go_enter func20,ntmps20
 go_wp2
 go_ret
 exact⟨rfl,But.refl _ _⟩)
noncomputable def tyE (ls:List Ln):Int:=if 40<ls.length then 4 else trE ls ls.length
theorem zjk (q:Option Addr) (n c:Nat) (ls:List Ln) (w:World) (hv:zce w (.slice q n c) ls) (lf:∀ l ∈ ls,Len l.f 1) (hbig:∀ l ∈ ls,l.toB.size<9223372036854775808) :
   Calls prog 20 #[.slice q n c] w fun e w'=>e=.returned (zei (tyE ls))∧But [] w w':=by(
 have hnl:n=ls.length:=by
  obtain⟨a,cap,e,-⟩:=hv
  simp only[Value.slice.injEq] at e
  exact e.2.1
 unfold tyE
 by_cases h:40<ls.length
 ·rw[if_pos h]
  refine (zie q n c w (by omega)).mono ?_
  rintro e w' ⟨he,hb⟩
  exact⟨he,hb⟩
 ·rw[if_neg h]
  exact zjl _ ls w hv (by omega) lf hbig)
theorem zrn (ls:List Ln) (h:tyE ls=0):ls.length≤40∧qgl ls ls.length:=by(
 unfold tyE at h
 by_cases h4:40<ls.length
 ·rw[if_pos h4] at h;exact absurd h (by omega)
 ·rw[if_neg h4] at h;exact⟨by omega,zyj ls _ (Nat.le_refl _) h⟩)
theorem qiz (a:Act) (w:World) (d t:Nat) (u:TypeId) (ps:String) (ed:Array Edge) (gd:Option (Nat × Bool)) (b o o':Nat) (ho:o+0=o') (h1:a.eval (.tmp t)=.pointer (some ⟨b,o,none⟩)) :
   (execOp a.eval { dst:=some d,op:=Op.fieldAddr 133 (.tmp t) 0,type:=u,pos:=ps,after:=ed,guard:=gd }).run prog w=.ok (.value (.pointer (some ⟨b,o',none⟩))) w:=by(
 subst ho
 unfold execOp
 simp only[h1]
 go_simp)
theorem zjx (a:Act) (w:World) (d t:Nat) (u:TypeId) (ps:String) (ed:Array Edge) (gd:Option (Nat × Bool)) (b o:Nat) (v:Value) (h1:a.eval (.tmp t)=.pointer (some ⟨b,o,none⟩)) (hc:w.cell? ⟨b,o,none⟩=some v) :
   (execOp a.eval { dst:=some d,op:=Op.load 3 (.tmp t),type:=u,pos:=ps,after:=ed,guard:=gd }).run prog w=.ok (.value v) w:=by(
 unfold execOp
 simp only[h1]
 go_simp)
theorem qiy (a:Act) (w:World) (d t:Nat) (u:TypeId) (ps:String) (ed:Array Edge) (gd:Option (Nat × Bool)) (b o o':Nat) (ho:o+1=o') (h1:a.eval (.tmp t)=.pointer (some ⟨b,o,none⟩)) :
   (execOp a.eval { dst:=some d,op:=Op.fieldAddr 133 (.tmp t) 1,type:=u,pos:=ps,after:=ed,guard:=gd }).run prog w=.ok (.value (.pointer (some ⟨b,o',none⟩))) w:=by(
 subst ho
 unfold execOp
 simp only[h1]
 go_simp)
theorem qix (a:Act) (w:World) (d t:Nat) (u:TypeId) (ps:String) (ed:Array Edge) (gd:Option (Nat × Bool)) (b o:Nat) (v0 v1:Value) (h1:a.eval (.tmp t)=.pointer (some ⟨b,o,none⟩)) (c0:w.cell? ⟨b,o,none⟩=some v0) (c1:w.cell? ⟨b,o+1,none⟩=some v1) :
   (execOp a.eval { dst:=some d,op:=Op.load 23 (.tmp t),type:=u,pos:=ps,after:=ed,guard:=gd }).run prog w=.ok (.value (.agg #[v0,v1])) w:=by(
 unfold execOp
 simp only[h1]
 go_simp)
theorem qiw (a:Act) (w:World) (d t0:Nat) (u:TypeId) (ps:String) (ed:Array Edge) (gd:Option (Nat × Bool)) (z0:Value) (h0:a.eval (.tmp t0)=z0) :
   (execOp a.eval { dst:=some d,op:=Op.call { callee:=Callee.value (Operand.func 10),args:=#[Operand.tmp t0],argTypes:=#[23] },type:=u,pos:=ps,after:=ed,guard:=gd }).run prog w=.ok (.enter 10 #[z0]) w:=by(
 unfold execOp
 go_simp
 rw[← h0]
 simp[Act.eval])
theorem qiv (a:Act) (w:World) (d t:Nat) (u:TypeId) (ps:String) (ed:Array Edge) (gd:Option (Nat × Bool)) (b o o':Nat) (ho:o+3=o') (h1:a.eval (.tmp t)=.pointer (some ⟨b,o,none⟩)) :
   (execOp a.eval { dst:=some d,op:=Op.fieldAddr 133 (.tmp t) 2,type:=u,pos:=ps,after:=ed,guard:=gd }).run prog w=.ok (.value (.pointer (some ⟨b,o',none⟩))) w:=by(
 subst ho
 unfold execOp
 simp only[h1]
 go_simp)
theorem qiu (a:Act) (w:World) (d t:Nat) (u:TypeId) (ps:String) (ed:Array Edge) (gd:Option (Nat × Bool)) (b o o':Nat) (ho:o+4=o') (h1:a.eval (.tmp t)=.pointer (some ⟨b,o,none⟩)) :
   (execOp a.eval { dst:=some d,op:=Op.fieldAddr 133 (.tmp t) 3,type:=u,pos:=ps,after:=ed,guard:=gd }).run prog w=.ok (.value (.pointer (some ⟨b,o',none⟩))) w:=by(
 subst ho
 unfold execOp
 simp only[h1]
 go_simp)
theorem qit (a:Act) (w:World) (d t:Nat) (u:TypeId) (ps:String) (ed:Array Edge) (gd:Option (Nat × Bool)) (b o o':Nat) (ho:o+5=o') (h1:a.eval (.tmp t)=.pointer (some ⟨b,o,none⟩)) :
   (execOp a.eval { dst:=some d,op:=Op.fieldAddr 133 (.tmp t) 4,type:=u,pos:=ps,after:=ed,guard:=gd }).run prog w=.ok (.value (.pointer (some ⟨b,o',none⟩))) w:=by(
 subst ho
 unfold execOp
 simp only[h1]
 go_simp)
theorem qis (a:Act) (w:World) (d t:Nat) (u:TypeId) (ps:String) (ed:Array Edge) (gd:Option (Nat × Bool)) (b o o':Nat) (ho:o+6=o') (h1:a.eval (.tmp t)=.pointer (some ⟨b,o,none⟩)) :
   (execOp a.eval { dst:=some d,op:=Op.fieldAddr 133 (.tmp t) 5,type:=u,pos:=ps,after:=ed,guard:=gd }).run prog w=.ok (.value (.pointer (some ⟨b,o',none⟩))) w:=by(
 subst ho
 unfold execOp
 simp only[h1]
 go_simp)
theorem qir (a:Act) (w:World) (d t:Nat) (u:TypeId) (ps:String) (ed:Array Edge) (gd:Option (Nat × Bool)) (b o o':Nat) (ho:o+7=o') (h1:a.eval (.tmp t)=.pointer (some ⟨b,o,none⟩)) :
   (execOp a.eval { dst:=some d,op:=Op.fieldAddr 133 (.tmp t) 6,type:=u,pos:=ps,after:=ed,guard:=gd }).run prog w=.ok (.value (.pointer (some ⟨b,o',none⟩))) w:=by(
 subst ho
 unfold execOp
 simp only[h1]
 go_simp)
theorem qfh (a:Act) (w:World) (d t:Nat) (u:TypeId) (ps:String) (ed:Array Edge) (gd:Option (Nat × Bool)) (b o:Nat) (v:Value) (h1:a.eval (.tmp t)=.pointer (some ⟨b,o,none⟩)) (hc:w.cell? ⟨b,o,none⟩=some v) :
   (execOp a.eval { dst:=some d,op:=Op.load 9 (.tmp t),type:=u,pos:=ps,after:=ed,guard:=gd }).run prog w=.ok (.value v) w:=by(
 unfold execOp
 simp only[h1]
 go_simp)
theorem qfg (a:Act) (w:World) (d t0 t1 t2 t3 t4 t5 t6:Nat) (u:TypeId) (ps:String) (ed:Array Edge) (gd:Option (Nat × Bool)) (z0:Int) (s1:Bool) (x1 y1:Int) (p1:Option Addr) (z2:Int) (z3:Int) (z4:Int) (z5:Int) (z6:ByteArray) (h0:a.eval (.tmp t0)=.int .i64 z0) (h1:a.eval (.tmp t1)=.agg #[.bool s1,.int .u64 x1,.int .u64 y1,.pointer p1]) (h2:a.eval (.tmp t2)=.int .i64 z2) (h3:a.eval (.tmp t3)=.int .i64 z3) (h4:a.eval (.tmp t4)=.int .i64 z4) (h5:a.eval (.tmp t5)=.int .i64 z5) (h6:a.eval (.tmp t6)=.string z6) :
   (execOp a.eval { dst:=some d,op:=Op.build 77 #[(0,Operand.tmp t0),(1,Operand.tmp t1),(2,Operand.tmp t2),(3,Operand.tmp t3),(4,Operand.tmp t4),(5,Operand.tmp t5),(6,Operand.tmp t6)],type:=u,pos:=ps,after:=ed,guard:=gd }).run prog w=.ok (.value (.agg #[.int .i64 z0,.bool s1,.int .u64 x1,.int .u64 y1,.pointer p1,.int .i64 z2,.int .i64 z3,.int .i64 z4,.int .i64 z5,.string z6])) w:=by(
 unfold execOp
 simp only[List.map_toArray,List.map_cons,List.map_nil,h0,h1,h2,h3,h4,h5,h6]
 go_simp)
theorem qff (a:Act) (w:World) (d t:Nat) (u:TypeId) (ps:String) (ed:Array Edge) (gd:Option (Nat × Bool)) (z0:Int) (s1:Bool) (x1 y1:Int) (p1:Option Addr) (z2:Int) (z3:Int) (z4:Int) (z5:Int) (z6:ByteArray) (h1:a.eval (.tmp t)=.agg #[.int .i64 z0,.bool s1,.int .u64 x1,.int .u64 y1,.pointer p1,.int .i64 z2,.int .i64 z3,.int .i64 z4,.int .i64 z5,.string z6]) :
   (execOp a.eval { dst:=some d,op:=Op.buildSlice 53 1 #[(0,Operand.tmp t)],type:=u,pos:=ps,after:=ed,guard:=gd }).run prog w=.ok (.value (.slice (some ⟨w.heap.size,0,none⟩) 1 1)) (w.alloc (.cells #[.int .i64 z0,.bool s1,.int .u64 x1,.int .u64 y1,.pointer p1,.int .i64 z2,.int .i64 z3,.int .i64 z4,.int .i64 z5,.string z6] 77)):=by(
 unfold execOp
 simp only[List.map_toArray,List.map_cons,List.map_nil,h1]
 go_simp)
theorem qfe (a:Act) (w:World) (d t1 t2:Nat) (ps:String) (ed:Array Edge) (gd:Option (Nat × Bool)) (v0 v1 v':Value) (w':World) (h1:a.eval (.tmp t1)=v0) (h2:a.eval (.tmp t2)=v1) (hr:(Builtin.append_ #[53,53] 53 #[v0,v1]).run prog w=.ok v' w') :
  (execOp a.eval { dst:=some d,op:=Op.call { callee:=Callee.builtin Builtin.append,args:=#[Operand.tmp t1,Operand.tmp t2],argTypes:=#[53,53] },type := 53,pos:=ps,after:=ed,guard:=gd }).run prog w=.ok (.value v') w':=by
 unfold execOp
 simp only[resolve,invoke,builtin,Sem.run_bind,Sem.run_pure,Result.andThen_ok,List.map_toArray,List.map_cons,List.map_nil,h1,h2,hr]
def qhv:Oper:=⟨some 12,.move (.tmp 3),53, "plain.go:166",#[],none⟩
def qhu:Oper:=⟨some 13,.fieldAddr 133 (.tmp 5) 0,0, "plain.go:166",#[],none⟩
def qht:Oper:=⟨some 14,.load 3 (.tmp 13),3, "plain.go:166",#[⟨1,.data⟩],none⟩
def qhs:Oper:=⟨some 15,.fieldAddr 133 (.tmp 5) 1,0, "plain.go:166",#[],none⟩
def qhr:Oper:=⟨some 16,.load 23 (.tmp 15),23, "plain.go:166",#[⟨3,.data⟩],none⟩
def qhq:Oper:=⟨some 17,.call { callee:=.value (.func 10),args:=#[.tmp 16],argTypes:=#[23] },27, "plain.go:166",#[⟨4,.data⟩],none⟩
def qhp:Oper:=⟨some 18,.fieldAddr 133 (.tmp 5) 2,0, "plain.go:166",#[],none⟩
def qho:Oper:=⟨some 19,.load 3 (.tmp 18),3, "plain.go:166",#[⟨6,.data⟩],none⟩
def qhn:Oper:=⟨some 20,.fieldAddr 133 (.tmp 5) 3,0, "plain.go:166",#[],none⟩
def qhm:Oper:=⟨some 21,.load 3 (.tmp 20),3, "plain.go:166",#[⟨8,.data⟩],none⟩
def qcn:Oper:=⟨some 22,.fieldAddr 133 (.tmp 5) 4,0, "plain.go:166",#[],none⟩
def qcm:Oper:=⟨some 23,.load 3 (.tmp 22),3, "plain.go:166",#[⟨10,.data⟩],none⟩
def qcl:Oper:=⟨some 24,.fieldAddr 133 (.tmp 5) 5,0, "plain.go:166",#[],none⟩
def qck:Oper:=⟨some 25,.load 3 (.tmp 24),3, "plain.go:166",#[⟨12,.data⟩],none⟩
def qcj:Oper:=⟨some 26,.fieldAddr 133 (.tmp 5) 6,0, "plain.go:166",#[],none⟩
def qci:Oper:=⟨some 27,.load 9 (.tmp 26),9, "plain.go:166",#[⟨14,.data⟩],none⟩
def qch:Oper:=⟨some 28,.build 77 #[(0,.tmp 14),(1,.tmp 17),(2,.tmp 19),(3,.tmp 21),(4,.tmp 23),(5,.tmp 25),(6,.tmp 27)],77, "plain.go:166",#[⟨2,.data⟩,⟨5,.data⟩,⟨7,.data⟩,⟨9,.data⟩,⟨11,.data⟩,⟨13,.data⟩,⟨15,.data⟩],none⟩
def qcg:Oper:=⟨some 29,.buildSlice 53 1 #[(0,.tmp 28)],53, "plain.go:166",#[⟨16,.data⟩],none⟩
def qcf:Oper:=⟨some 30,.call { callee:=.builtin .append,args:=#[.tmp 12,.tmp 29],argTypes:=#[53,53] },53, "plain.go:166",#[⟨0,.data⟩,⟨17,.data⟩,⟨5,.chain⟩],none⟩
def qce:Oper:=⟨some 3,.assign (.tmp 30),53, "plain.go:166",#[⟨18,.data⟩,⟨18,.chain⟩,⟨0,.phase⟩,⟨1,.phase⟩,⟨2,.phase⟩,⟨3,.phase⟩,⟨4,.phase⟩,⟨5,.phase⟩,⟨6,.phase⟩,⟨7,.phase⟩,⟨8,.phase⟩,⟨9,.phase⟩,⟨10,.phase⟩,⟨11,.phase⟩,⟨12,.phase⟩,⟨13,.phase⟩,⟨14,.phase⟩,⟨15,.phase⟩,⟨16,.phase⟩,⟨17,.phase⟩,⟨18,.phase⟩],none⟩
def dh:Array Oper:=#[qhv,qhu,qht,qhs,qhr,qhq,qhp,qho,qhn,qhm,qcn,qcm,qcl,qck,qcj,qci,qch,qcg,qcf,qce]
structure zkn (W0:World) (vo:Value) (g5:Nat) (kd:Int) (qu:Int) (qv:Int) (s1:Bool) (x1:Int) (y1:Int) (fq:Int) (li:Int) (ti:Int) (pq:Int) (tof:ByteArray) (g:Nat) (va:Value) (b17:Bool) (w:World):Prop where
 mem:But [] W0 w
 f17:b17=true→p9 W0.heap.size w g [.int .i64 kd,.bool s1,.int .u64 x1,.int .u64 y1,.pointer none,.int .i64 fq,.int .i64 li,.int .i64 ti,.int .i64 pq,.string tof]
theorem zkn.but {W0:World} {vo:Value} {g5:Nat} {kd:Int} {qu:Int} {qv:Int} {s1:Bool} {x1:Int} {y1:Int} {fq:Int} {li:Int} {ti:Int} {pq:Int} {tof:ByteArray} {g:Nat} {va:Value} {b17:Bool} {w w':World} (h:zkn W0 vo g5 kd qu qv s1 x1 y1 fq li ti pq tof g va b17 w) (hb:But [] w w'):zkn W0 vo g5 kd qu qv s1 x1 y1 fq li ti pq tof g va b17 w' :=
 { mem:=h.mem.trans' hb,f17:=fun e=>(h.f17 e).but hb }
theorem zkn.s17 {W0:World} {vo:Value} {g5:Nat} {kd:Int} {qu:Int} {qv:Int} {s1:Bool} {x1:Int} {y1:Int} {fq:Int} {li:Int} {ti:Int} {pq:Int} {tof:ByteArray} {g:Nat} {va:Value} {b17:Bool} {w:World} (h:zkn W0 vo g5 kd qu qv s1 x1 y1 fq li ti pq tof g va b17 w) (g':Nat) (hf:p9 W0.heap.size w g' [.int .i64 kd,.bool s1,.int .u64 x1,.int .u64 y1,.pointer none,.int .i64 fq,.int .i64 li,.int .i64 ti,.int .i64 pq,.string tof]):zkn W0 vo g5 kd qu qv s1 x1 y1 fq li ti pq tof g' va true w :=
 { mem:=h.mem,f17:=fun _=>hf }
def zdv (i:Nat):Nat:=match i with
 | 0=>12
 | 1=>13
 | 2=>14
 | 3=>15
 | 4=>16
 | 5=>17
 | 6=>18
 | 7=>19
 | 8=>20
 | 9=>21
 | 10=>22
 | 11=>23
 | 12=>24
 | 13=>25
 | 14=>26
 | 15=>27
 | 16=>28
 | 17=>29
 | 18=>30
 | _=>3
def zkm (i:Nat):Bool:=match i with
 | _=>true
def qcd (vo:Value) (g5:Nat) (kd:Int) (qu:Int) (qv:Int) (s1:Bool) (x1:Int) (y1:Int) (fq:Int) (li:Int) (ti:Int) (pq:Int) (tof:ByteArray) (g:Nat) (va:Value) (i:Nat):Value:=match i with
 | 0=>vo
 | 1=>.pointer (some ⟨g5,0,none⟩)
 | 2=>.int .i64 kd
 | 3=>.pointer (some ⟨g5,1,none⟩)
 | 4=>.agg #[.int .i64 qu,.int .i64 qv]
 | 5=>.agg #[.bool s1,.int .u64 x1,.int .u64 y1,.pointer none]
 | 6=>.pointer (some ⟨g5,3,none⟩)
 | 7=>.int .i64 fq
 | 8=>.pointer (some ⟨g5,4,none⟩)
 | 9=>.int .i64 li
 | 10=>.pointer (some ⟨g5,5,none⟩)
 | 11=>.int .i64 ti
 | 12=>.pointer (some ⟨g5,6,none⟩)
 | 13=>.int .i64 pq
 | 14=>.pointer (some ⟨g5,7,none⟩)
 | 15=>.string tof
 | 16=>.agg #[.int .i64 kd,.bool s1,.int .u64 x1,.int .u64 y1,.pointer none,.int .i64 fq,.int .i64 li,.int .i64 ti,.int .i64 pq,.string tof]
 | 17=>.slice (some ⟨g,0,none⟩) 1 1
 | 18=>va
 | _=>va
theorem zz:zcz dh [(2,1),(4,3),(5,4),(7,6),(9,8),(11,10),(13,12),(15,14),(16,2),(16,5),(16,7),(16,9),(16,11),(16,13),(16,15),(17,16),(18,0),(18,5),(18,17),(19,0),(19,1),(19,2),(19,3),(19,4),(19,5),(19,6),(19,7),(19,8),(19,9),(19,10),(19,11),(19,12),(19,13),(19,14),(19,15),(19,16),(19,17),(19,18)]=true:=by kernel_rfl
theorem zwz:∀ i j,i<20→j<20→zkm i=true→zkm j=true→zdv i=zdv j→i=j:=fun i j hi hj=>(by decide:∀ i,i<20→∀ j,j<20→zkm i=true→zkm j=true→zdv i=zdv j→i=j) i hi j hj
theorem zjj (id:Nat) (Q:Exit→Act→World→Prop) (base:Act) (W0:World) (vo:Value) (g5:Nat) (kd:Int) (qu:Int) (qv:Int) (s1:Bool) (x1:Int) (y1:Int) (fq:Int) (li:Int) (ti:Int) (pq:Int) (tof:ByteArray) (Post:Value→World→Prop) (hs:30<base.tmps.size) (e3:base.eval (.tmp 3)=vo) (e5:base.eval (.tmp 5)=.pointer (some ⟨g5,0,none⟩))
   (c0:W0.cell? ⟨g5,0,none⟩=some (.int .i64 kd)) (c3:W0.cell? ⟨g5,3,none⟩=some (.int .i64 fq)) (c4:W0.cell? ⟨g5,4,none⟩=some (.int .i64 li)) (c5:W0.cell? ⟨g5,5,none⟩=some (.int .i64 ti)) (c6:W0.cell? ⟨g5,6,none⟩=some (.int .i64 pq)) (c7:W0.cell? ⟨g5,7,none⟩=some (.string tof)) (c1:W0.cell? ⟨g5,1,none⟩=some (.int .i64 qu)) (c2:W0.cell? ⟨g5,2,none⟩=some (.int .i64 qv))
   (PF:∀ w,Calls prog 10 #[.agg #[.int .i64 qu,.int .i64 qv]] w fun e w'=>e=.returned (.agg #[.bool s1,.int .u64 x1,.int .u64 y1,.pointer none])∧But [] w w')
   (AP:∀ w g,But [] W0 w→p9 W0.heap.size w g [.int .i64 kd,.bool s1,.int .u64 x1,.int .u64 y1,.pointer none,.int .i64 fq,.int .i64 li,.int .i64 ti,.int .i64 pq,.string tof]→∃ v' w',(Builtin.append_ #[53,53] 53 #[vo,.slice (some ⟨g,0,none⟩) 1 1]).run prog w=.ok v' w'∧Post v' w')
   (hQ:∀ (g:Nat) (va:Value) w1,Post va w1→Q .normal (bi base [(12,vo),(13,.pointer (some ⟨g5,0,none⟩)),(14,.int .i64 kd),(15,.pointer (some ⟨g5,1,none⟩)),(16,.agg #[.int .i64 qu,.int .i64 qv]),(17,.agg #[.bool s1,.int .u64 x1,.int .u64 y1,.pointer none]),(18,.pointer (some ⟨g5,3,none⟩)),(19,.int .i64 fq),(20,.pointer (some ⟨g5,4,none⟩)),(21,.int .i64 li),(22,.pointer (some ⟨g5,5,none⟩)),(23,.int .i64 ti),(24,.pointer (some ⟨g5,6,none⟩)),(25,.int .i64 pq),(26,.pointer (some ⟨g5,7,none⟩)),(27,.string tof),(28,.agg #[.int .i64 kd,.bool s1,.int .u64 x1,.int .u64 y1,.pointer none,.int .i64 fq,.int .i64 li,.int .i64 ti,.int .i64 pq,.string tof]),(29,.slice (some ⟨g,0,none⟩) 1 1),(30,va),(3,va)]) w1) :
   (Code.region id dh true).wp prog Q base W0:=by(
 have hT:∀ i,i<20→zkm i=true→zdv i<base.tmps.size:=fun i hi _=>by
  have h:zdv i≤30:=by revert i;decide
  omega
 refine zka (by kernel_rfl) (di (by kernel_rfl)) (zvf (by kernel_rfl)) (fun (N:(Nat) × (Value)) d w=>∃ w1,zkn W0 vo g5 kd qu qv s1 x1 y1 fq li ti pq tof N.1 N.2 (d 17) w1∧(d 18=false→w=w1)∧(d 18=true→Post N.2 w)) (fun N=>qcd vo g5 kd qu qv s1 x1 y1 fq li ti pq tof N.1 N.2) zdv zkm 20 (by kernel_rfl) zwz hT (0,undef) ⟨_,{ mem:=(But.refl _ _).drew,f17:=fun h=>by simp at h },fun _=>rfl,fun h=>by simp at h⟩ ?_ ?_
 ·(
 intro N d i o a w K hi ho hdi hcl hH he hdep hK
 have hD:=qdx zz ho (fun j=>d j=true∧(zkm j=true→a.eval (.tmp (zdv j))=qcd vo g5 kd qu qv s1 x1 y1 fq li ti pq tof N.1 N.2 j)) hdep
 have e5':=(he 5 (fun j hj _ _=>(by decide:∀ j,j<20→(5:Nat)≠zdv j) j hj)).trans e5
 have:i=0∨i=1∨i=2∨i=3∨i=4∨i=5∨i=6∨i=7∨i=8∨i=9∨i=10∨i=11∨i=12∨i=13∨i=14∨i=15∨i=16∨i=17∨i=18∨i=19:=by omega
 rcases this with rfl|rfl|rfl|rfl|rfl|rfl|rfl|rfl|rfl|rfl|rfl|rfl|rfl|rfl|rfl|rfl|rfl|rfl|rfl|rfl
 ·(
 obtain rfl:=so (show dh[0]? =some qhv from rfl) ho
 have e3':=(he 3 (fun j hj _ hdj e=>by
  by_cases hj2:j=19
  ·subst hj2;exact absurd ((hcl.not zz (i:=19) (j:=0) (by simp) hdi).symm.trans hdj) (by simp)
  ·exact absurd e ((by decide:∀ j,j<20→j≠19→(3:Nat)≠zdv j) j hj hj2))).trans e3
 exact al (br a w _ _ _ _ _ _ _ e3') (hK N _ _ (fun _=>rfl) (fun _ _ _ _=>rfl) hH))
 ·obtain rfl:=so (show dh[1]? =some qhu from rfl) ho
  exact al (qiz a w _ _ _ _ _ _ g5 (0) (0) rfl e5') (hK N _ _ (fun _=>rfl) (fun _ _ _ _=>rfl) hH)
 ·(
 obtain rfl:=so (show dh[2]? =some qht from rfl) ho
 have hs0:d 18=false:=(hcl.not zz (i:=18) (j:=17) (by simp) (hcl.not zz (i:=17) (j:=16) (by simp) (hcl.not zz (i:=16) (j:=2) (by simp) hdi)))
 obtain⟨w1,hP,h1,h2⟩:=hH
 obtain rfl:=h1 hs0
 have hW:=hP.mem
 exact al (zjx a w _ _ _ _ _ _ g5 (0) _ ((hD 1 (by simp)).2 rfl) (hW.ag c0 (by simp))) (hK N _ _ (fun _=>rfl) (fun _ _ _ _=>rfl) ⟨_,hP,h1,h2⟩))
 ·obtain rfl:=so (show dh[3]? =some qhs from rfl) ho
  exact al (qiy a w _ _ _ _ _ _ g5 (0) (1) rfl e5') (hK N _ _ (fun _=>rfl) (fun _ _ _ _=>rfl) hH)
 ·(
 obtain rfl:=so (show dh[4]? =some qhr from rfl) ho
 have hs0:d 18=false:=(hcl.not zz (i:=18) (j:=5) (by simp) (hcl.not zz (i:=5) (j:=4) (by simp) hdi))
 obtain⟨w1,hP,h1,h2⟩:=hH
 obtain rfl:=h1 hs0
 have hW:=hP.mem
 exact al (qix a w _ _ _ _ _ _ g5 (1) _ _ ((hD 3 (by simp)).2 rfl) (hW.ag c1 (by simp)) (hW.ag c2 (by simp))) (hK N _ _ (fun _=>rfl) (fun _ _ _ _=>rfl) ⟨_,hP,h1,h2⟩))
 ·(
 obtain rfl:=so (show dh[5]? =some qhq from rfl) ho
 have hs0:d 18=false:=(hcl.not zz (i:=18) (j:=5) (by simp) hdi)
 obtain⟨w1,hP,h1,h2⟩:=hH
 obtain rfl:=h1 hs0
 have hW:=hP.mem
 exact aw (qiw a w _ _ _ _ _ _ _ ((hD 4 (by simp)).2 rfl)) (R:=fun w' v=>v=qcd vo g5 kd qu qv s1 x1 y1 fq li ti pq tof N.1 N.2 5∧But [] w w') ((PF w).mono fun e w' ⟨he,hb⟩=>⟨_,he,rfl,hb⟩) (fun v w' hv=>hK N _ _ (fun _=>hv.1) (fun _ _ _ _=>rfl) ⟨_,(hP.but hv.2),fun _=>rfl,fun h=>absurd (hs0.symm.trans h) (by simp)⟩))
 ·obtain rfl:=so (show dh[6]? =some qhp from rfl) ho
  exact al (qiv a w _ _ _ _ _ _ g5 (0) (3) rfl e5') (hK N _ _ (fun _=>rfl) (fun _ _ _ _=>rfl) hH)
 ·(
 obtain rfl:=so (show dh[7]? =some qho from rfl) ho
 have hs0:d 18=false:=(hcl.not zz (i:=18) (j:=17) (by simp) (hcl.not zz (i:=17) (j:=16) (by simp) (hcl.not zz (i:=16) (j:=7) (by simp) hdi)))
 obtain⟨w1,hP,h1,h2⟩:=hH
 obtain rfl:=h1 hs0
 have hW:=hP.mem
 exact al (zjx a w _ _ _ _ _ _ g5 (3) _ ((hD 6 (by simp)).2 rfl) (hW.ag c3 (by simp))) (hK N _ _ (fun _=>rfl) (fun _ _ _ _=>rfl) ⟨_,hP,h1,h2⟩))
 ·obtain rfl:=so (show dh[8]? =some qhn from rfl) ho
  exact al (qiu a w _ _ _ _ _ _ g5 (0) (4) rfl e5') (hK N _ _ (fun _=>rfl) (fun _ _ _ _=>rfl) hH)
 ·(
 obtain rfl:=so (show dh[9]? =some qhm from rfl) ho
 have hs0:d 18=false:=(hcl.not zz (i:=18) (j:=17) (by simp) (hcl.not zz (i:=17) (j:=16) (by simp) (hcl.not zz (i:=16) (j:=9) (by simp) hdi)))
 obtain⟨w1,hP,h1,h2⟩:=hH
 obtain rfl:=h1 hs0
 have hW:=hP.mem
 exact al (zjx a w _ _ _ _ _ _ g5 (4) _ ((hD 8 (by simp)).2 rfl) (hW.ag c4 (by simp))) (hK N _ _ (fun _=>rfl) (fun _ _ _ _=>rfl) ⟨_,hP,h1,h2⟩))
 ·obtain rfl:=so (show dh[10]? =some qcn from rfl) ho
  exact al (qit a w _ _ _ _ _ _ g5 (0) (5) rfl e5') (hK N _ _ (fun _=>rfl) (fun _ _ _ _=>rfl) hH)
 ·(
 obtain rfl:=so (show dh[11]? =some qcm from rfl) ho
 have hs0:d 18=false:=(hcl.not zz (i:=18) (j:=17) (by simp) (hcl.not zz (i:=17) (j:=16) (by simp) (hcl.not zz (i:=16) (j:=11) (by simp) hdi)))
 obtain⟨w1,hP,h1,h2⟩:=hH
 obtain rfl:=h1 hs0
 have hW:=hP.mem
 exact al (zjx a w _ _ _ _ _ _ g5 (5) _ ((hD 10 (by simp)).2 rfl) (hW.ag c5 (by simp))) (hK N _ _ (fun _=>rfl) (fun _ _ _ _=>rfl) ⟨_,hP,h1,h2⟩))
 ·obtain rfl:=so (show dh[12]? =some qcl from rfl) ho
  exact al (qis a w _ _ _ _ _ _ g5 (0) (6) rfl e5') (hK N _ _ (fun _=>rfl) (fun _ _ _ _=>rfl) hH)
 ·(
 obtain rfl:=so (show dh[13]? =some qck from rfl) ho
 have hs0:d 18=false:=(hcl.not zz (i:=18) (j:=17) (by simp) (hcl.not zz (i:=17) (j:=16) (by simp) (hcl.not zz (i:=16) (j:=13) (by simp) hdi)))
 obtain⟨w1,hP,h1,h2⟩:=hH
 obtain rfl:=h1 hs0
 have hW:=hP.mem
 exact al (zjx a w _ _ _ _ _ _ g5 (6) _ ((hD 12 (by simp)).2 rfl) (hW.ag c6 (by simp))) (hK N _ _ (fun _=>rfl) (fun _ _ _ _=>rfl) ⟨_,hP,h1,h2⟩))
 ·obtain rfl:=so (show dh[14]? =some qcj from rfl) ho
  exact al (qir a w _ _ _ _ _ _ g5 (0) (7) rfl e5') (hK N _ _ (fun _=>rfl) (fun _ _ _ _=>rfl) hH)
 ·(
 obtain rfl:=so (show dh[15]? =some qci from rfl) ho
 have hs0:d 18=false:=(hcl.not zz (i:=18) (j:=17) (by simp) (hcl.not zz (i:=17) (j:=16) (by simp) (hcl.not zz (i:=16) (j:=15) (by simp) hdi)))
 obtain⟨w1,hP,h1,h2⟩:=hH
 obtain rfl:=h1 hs0
 have hW:=hP.mem
 exact al (qfh a w _ _ _ _ _ _ g5 (7) _ ((hD 14 (by simp)).2 rfl) (hW.ag c7 (by simp))) (hK N _ _ (fun _=>rfl) (fun _ _ _ _=>rfl) ⟨_,hP,h1,h2⟩))
 ·obtain rfl:=so (show dh[16]? =some qch from rfl) ho
  exact al (qfg a w _ _ _ _ _ _ _ _ _ _ _ _ _ _ _ _ _ _ _ _ _ _ ((hD 2 (by simp)).2 rfl) ((hD 5 (by simp)).2 rfl) ((hD 7 (by simp)).2 rfl) ((hD 9 (by simp)).2 rfl) ((hD 11 (by simp)).2 rfl) ((hD 13 (by simp)).2 rfl) ((hD 15 (by simp)).2 rfl)) (hK N _ _ (fun _=>rfl) (fun _ _ _ _=>rfl) hH)
 ·(
 obtain rfl:=so (show dh[17]? =some qcg from rfl) ho
 have hs0:d 18=false:=(hcl.not zz (i:=18) (j:=17) (by simp) hdi)
 obtain⟨w1,hP,h1,h2⟩:=hH
 obtain rfl:=h1 hs0
 have hW:=hP.mem
 have bA:But [] w (w.alloc (.cells #[.int .i64 kd,.bool s1,.int .u64 x1,.int .u64 y1,.pointer none,.int .i64 fq,.int .i64 li,.int .i64 ti,.int .i64 pq,.string tof] 77)):=(But.refl _ _).alloc _
 have hsz:=hW.size
 exact al (qff a w _ _ _ _ _ _ _ _ _ _ _ _ _ _ _ _ ((hD 16 (by simp)).2 rfl)) (hK (w.heap.size,N.2) _ _ (fun _=>rfl) (fun j hj _ hdj=>by
  have:j=0∨j=1∨j=2∨j=3∨j=4∨j=5∨j=6∨j=7∨j=8∨j=9∨j=10∨j=11∨j=12∨j=13∨j=14∨j=15∨j=16∨j=17∨j=18∨j=19:=by omega
  rcases this with rfl|rfl|rfl|rfl|rfl|rfl|rfl|rfl|rfl|rfl|rfl|rfl|rfl|rfl|rfl|rfl|rfl|rfl|rfl|rfl
  ·rfl
  ·rfl
  ·rfl
  ·rfl
  ·rfl
  ·rfl
  ·rfl
  ·rfl
  ·rfl
  ·rfl
  ·rfl
  ·rfl
  ·rfl
  ·rfl
  ·rfl
  ·rfl
  ·rfl
  ·exact absurd (hdi.symm.trans hdj) (by simp)
  ·rfl
  ·rfl) ⟨_,((hP.but bA).s17 w.heap.size (p9.made _ w [.int .i64 kd,.bool s1,.int .u64 x1,.int .u64 y1,.pointer none,.int .i64 fq,.int .i64 li,.int .i64 ti,.int .i64 pq,.string tof] _ hsz)),fun _=>rfl,fun h=>absurd (hs0.symm.trans h) (by simp)⟩))
 ·(
 obtain rfl:=so (show dh[18]? =some qcf from rfl) ho
 obtain⟨w1,hP,h1,h2⟩:=hH
 obtain rfl:=h1 hdi
 have hW:=hP.mem
 have t17:d 17=true:=(hD 17 (by simp)).1
 obtain⟨v',w',hr,hpost⟩:=AP w N.1 hW (hP.f17 t17)
 exact al (qfe a w _ _ _ _ _ _ _ _ v' w' ((hD 0 (by simp)).2 rfl) ((hD 17 (by simp)).2 rfl) hr) (hK (N.1,v') _ _ (fun _=>rfl) (fun j hj _ hdj=>by
  have:j=0∨j=1∨j=2∨j=3∨j=4∨j=5∨j=6∨j=7∨j=8∨j=9∨j=10∨j=11∨j=12∨j=13∨j=14∨j=15∨j=16∨j=17∨j=18∨j=19:=by omega
  rcases this with rfl|rfl|rfl|rfl|rfl|rfl|rfl|rfl|rfl|rfl|rfl|rfl|rfl|rfl|rfl|rfl|rfl|rfl|rfl|rfl
  ·rfl
  ·rfl
  ·rfl
  ·rfl
  ·rfl
  ·rfl
  ·rfl
  ·rfl
  ·rfl
  ·rfl
  ·rfl
  ·rfl
  ·rfl
  ·rfl
  ·rfl
  ·rfl
  ·rfl
  ·rfl
  ·exact absurd (hdi.symm.trans hdj) (by simp)
  ·exact absurd ((hcl.not zz (i:=19) (j:=18) (by simp) hdi).symm.trans hdj) (by simp)) ⟨w,{ mem:=hP.mem,f17:=hP.f17 },fun h=>absurd h (by rw[fw];simp),fun _=>hpost⟩))
 ·obtain rfl:=so (show dh[19]? =some qce from rfl) ho
  exact al (zat a w _ _ _ _ _ _ _ ((hD 18 (by simp)).2 rfl)) (hK N _ _ (fun _=>rfl) (fun _ _ _ _=>rfl) hH))
 ·intro N d w hd hH
  obtain⟨w1,hP,h1,h2⟩:=hH
  exact hQ N.1 N.2 w (h2 (hd 18 (by omega))))
end Go.Proofs.YtjlfllhedceigaaGreatDoor
