/- Which error a line is, as the reference  -/
import Derived.Test.YtjlfllhedceigaaGreatDoorRTWh
import Derived.Test.YtjlfllhedceigaaGreatDoorRTWl
namespace Go.Proofs.YtjlfllhedceigaaGreatDoor
open Go.Proofs.Tryz
open Go.RowKit
set_option maxHeartbeats 16000000
set_option maxRecDepth 100000
theorem zoh (l:Ln) (h1:¬ (l.kd<1∨4<l.kd)) (h2:qd l.toB) (h3:qg l.fr l.li l.ti l.pr) (h4:zln l):lnE l=0:=(xu l).2 ⟨by omega,h2,h3,h4⟩
theorem ziw (l:Ln) (h1:¬ (l.kd<1∨4<l.kd)) (h2:qd l.toB) (h3:qg l.fr l.li l.ti l.pr) (h4:¬ zln l):lnE l=1:=by
 unfold lnE
 rw[if_neg h1,if_neg (fun h=>h h2),if_neg (fun h=>h h3),if_pos h4]
theorem zqb (l:Ln) (zb:Nat) (w:World) (hf:zx w zb l.f) (lf:zbn l.f 2000000) (hbig:l.toB.size<9223372036854775808) :
   Calls prog 73 #[rlV l.kd zb l.fr l.li l.ti l.pr l.toB] w fun e w'=>e=.returned (.int .i64 (lnE l))∧But [] w w':=by(
 obtain⟨kd,f,fr,li,ti,pr,nm⟩:=l
 by_cases h1:kd<1∨4<kd
 ·rw[show lnE ⟨kd,f,fr,li,ti,pr,nm⟩=1 from if_pos h1]
  exact znz kd zb fr li ti pr nm w h1
 ·(
 by_cases h2:qd nm
 ·(
 by_cases h3:qg fr li ti pr
 ·(
 have hk:kd=1∨kd=2∨kd=3∨kd=4:=by omega
 rcases hk with rfl|rfl|rfl|rfl
 ·exact zqa zb f fr li ti pr nm w hf lf h2 h3 _ (fun h=>zoh _ h1 h2 h3 ⟨fun _=>h,fun k=>absurd k (by simp),fun k=>absurd k (by simp),fun k=>absurd k (by simp)⟩) (fun h=>ziw _ h1 h2 h3 (fun k=>h (k.1 rfl)))
 ·exact zpz zb f fr li ti pr nm w hf lf h2 h3 _ (fun h=>zoh _ h1 h2 h3 ⟨fun k=>absurd k (by simp),fun _=>h,fun k=>absurd k (by simp),fun k=>absurd k (by simp)⟩) (fun h=>ziw _ h1 h2 h3 (fun k=>h (k.2.1 rfl)))
 ·exact zlv zb f fr li ti pr nm w hf lf h2 h3 _ (fun h=>zoh _ h1 h2 h3 ⟨fun k=>absurd k (by simp),fun k=>absurd k (by simp),fun _=>h,fun k=>absurd k (by simp)⟩) (fun h=>ziw _ h1 h2 h3 (fun k=>h (k.2.2.1 rfl)))
 ·exact zoa zb f fr li ti pr nm w hf lf h2 h3 _ (fun h=>zoh _ h1 h2 h3 ⟨fun k=>absurd k (by simp),fun k=>absurd k (by simp),fun k=>absurd k (by simp),fun _=>h⟩) (fun h=>ziw _ h1 h2 h3 (fun k=>h (k.2.2.2 rfl))))
 ·rw[show lnE ⟨kd,f,fr,li,ti,pr,nm⟩=2 from by unfold lnE;rw[if_neg h1,if_neg (fun h=>h h2),if_pos h3]]
  exact zlw kd zb fr li ti pr nm w (by omega) (by omega) h2 h3)
 ·rw[show lnE ⟨kd,f,fr,li,ti,pr,nm⟩=5 from by unfold lnE;rw[if_neg h1,if_pos h2]]
  exact zny kd zb fr li ti pr nm w (by omega) (by omega) h2 hbig))
set_option linter.unusedVariables false
theorem zlu (q:Option Addr) (n c:Nat) (w:World) (hn:40<n) :
   Calls prog 21 #[.slice q n c] w fun e w'=>e=.returned (.int .i64 4)∧But [] w w':=by(
 go_enter func21,ntmps21
 go_wp2
 go_ret
 exact⟨rfl,But.refl _ _⟩)
theorem znw (v:Value) (ls:List Ln) (w:World) (hv:zic w v ls) (hn:ls.length≤40) (lf:∀ l ∈ ls,zbn l.f 2000000) (hbig:∀ l ∈ ls,l.toB.size<9223372036854775808) :
   Calls prog 21 #[v] w fun e w'=>e=.returned (.int .i64 (trE ls ls.length))∧But [] w w':=by(
 obtain⟨a,cap,rfl,hcap,hc⟩:=hv
 have HC:=af hc
 have HL:=af lf
 have HG:=af hbig
 generalize hnn:ls.length=n at *
 have HN:=af hnn
 clear hc hnn lf hbig
 go_enter func21,ntmps21
 go_wp2
 go_loopw [11] (fun i wr=>∃ k:Nat,k≤n∧i=.int .i64 (k:Int)∧Hid (trE ls k=0)∧Hid (But [] w wr)) (fun i _=>n-(intOf i).toNat)
 case atStart=>exact⟨0,Nat.zero_le _,rfl,rfl,But.refl _ _⟩
 case round =>(
 obtain⟨k,hk,rfl,HO,HB⟩:=hrel
 rename World=>wr
 by_cases hlt:k<n
 ·(
 have hkl:k<ls.length:=by have:=ae HN;omega
 have hge:ls[k]? = some ls[k]:=List.getElem?_eq_getElem hkl
 have hmem:ls[k] ∈ ls:=List.getElem_mem hkl
 obtain⟨b,off,rfl,hat⟩:=ae HC k _ hge
 have hl1:=ae HL _ hmem
 have hg1:=ae HG _ hmem
 obtain⟨l,hl⟩:∃ l,l=ls[k]:=⟨_,rfl⟩
 rw[← hl] at hge hat hl1 hg1
 obtain⟨zb,hcs,hf⟩:=hat.but (ae HB)
 have c0:=hcs 0 _ rfl
 have c1:=hcs 1 _ rfl
 have c2:=hcs 2 _ rfl
 have c3:=hcs 3 _ rfl
 have c4:=hcs 4 _ rfl
 have c5:=hcs 5 _ rfl
 have c6:=hcs 6 _ rfl
 rw[Nat.add_zero] at c0
 have HGE:=af hge
 have CK:=af (fun W (h:But [] wr W)=>zqb l zb W (hf.but h) hl1 hg1)
 unfold rlV at CK
 clear hge hmem hat hf hl1 hg1 hl hcs
 go_wp2_with fail
 refine (ae CK _ ((But.refl _ _).alloc _)).mono ?_
 rintro e w1 ⟨rfl,hb1⟩
 have bw1:=((But.refl [] wr).alloc (.cells #[.int .i64 l.kd,.pointer (some ⟨zb,0,none⟩),.int .i64 l.fr,.int .i64 l.li,.int .i64 l.ti,.int .i64 l.pr,.string l.toB] 135)).trans' hb1
 have B1:=af ((ae HB).trans' bw1)
 have d0:w1.cell? ⟨wr.heap.size,0,none⟩=some (.int .i64 l.kd):=hb1.ag (by simp) (by simp)
 generalize wr.heap.size=g4 at d0 ⊢
 have hstep:zmj l→(∀ j m,j+1=k→ls[j]? = some m→m.kd=4→l.kd=4)→trE ls (k+1)=0:=fun h1 h2=>zpm ls k (ae HO) (zpn ls k l (ae HGE) ((xu l).2 h1) h2)
 have HST:=af hstep
 have HLT:Hid (k<ls.length):=by show _<_;have:=ae HN;omega
 clear hb1 bw1 CK c0 c1 c2 c3 c4 c5 c6 hstep
 by_cases hlo:zmj l
 ·(
 have hz0:=(xu l).2 hlo
 have HZ0:=af hz0
 rw[hz0]
 clear hz0
 by_cases hk0:k=0
 ·have hk0':¬ (0:Int)<(k:Int):=by omega
  have HT:=af (ae HST hlo (fun j m hj=>absurd hj (by omega)))
  go_wp2
  exact⟨⟨k+1,by omega,by go_num,ae HT,ae B1⟩,by simp[intOf];omega⟩
 ·(
 have hk0':(0:Int)<(k:Int):=by omega
 have hkp:k-1<ls.length:=by have:=ae HLT;omega
 obtain⟨b',off',eb,hat'⟩:=ae HC (k-1) _ (List.getElem?_eq_getElem hkp)
 simp only[Option.some.injEq,Addr.mk.injEq,and_true] at eb
 obtain⟨rfl,rfl⟩:=eb
 obtain⟨m,hm⟩:∃ m,m=ls[k-1]:=⟨_,rfl⟩
 rw[← hm] at hat'
 obtain⟨zm,hms,-⟩:=hat'.but (ae B1)
 have e0:=hms 0 _ rfl
 rw[Nat.add_zero] at e0
 have hmg:ls[k-1]? = some m:=by rw[hm];exact List.getElem?_eq_getElem hkp
 obtain⟨q,hq⟩:∃ q:Nat,(k:Int)-1=(q:Int):=⟨k-1,by omega⟩
 have hqk:k-1=q:=by omega
 rw[hqk] at e0 hmg
 have hqn:q<n:=by omega
 have HMG:=af hmg
 have HQK:Hid (q+1=k):=by show _=_;omega
 clear hat' hm hmg hqk hkp hms
 by_cases h4:m.kd=4
 ·(
 by_cases h5:l.kd=4
 ·(
 have HT:=af (ae HST hlo (fun _ _ _ _ _=>h5))
 have h4b:(m.kd==4)=true:=by rw[h4];rfl
 have h5b:(l.kd != 4)=false:=by rw[h5];rfl
 go_wp2
 exact⟨⟨k+1,by omega,by go_num,ae HT,ae B1⟩,by simp[intOf];omega⟩)
 ·(
 have h4b:(m.kd==4)=true:=by rw[h4];rfl
 have h5b:(l.kd != 4)=true:=by simpa using h5
 go_wp2
 go_ret
 have ha:=zgc ls k q l m (ae HGE) (ae HZ0) (ae HQK) (ae HMG) h4 h5
 exact⟨by rw[zde ls k n (ae HO) (by rw[ha];omega) hlt,ha];rfl,ae B1⟩))
 ·(
 have h4b:(m.kd==4)=false:=beq_eq_false_iff_ne.2 h4
 have HT:=af (ae HST hlo (fun j m' hj hm'=>by
  obtain rfl:j=q:=by have:=ae HQK;omega
  rw[ae HMG] at hm'
  obtain rfl:=Option.some.inj hm'
  exact fun h=>absurd h h4))
 go_wp2
 exact⟨⟨k+1,by omega,by go_num,ae HT,ae B1⟩,by simp[intOf];omega⟩)))
 ·(
 have hz:lnE l≠0:=fun h=>hlo ((xu l).1 h)
 have HZ:=af hz
 obtain⟨z,hzz⟩:∃ z,z=lnE l:=⟨_,rfl⟩
 rw[← hzz] at hz ⊢
 have HZZ:=af hzz
 have hzb:(z != 0)=true:=by simpa using hz
 clear hzz hz HST
 go_wp2
 go_ret
 have ha:=zjm ls k l (ae HGE) (ae HZ)
 exact⟨by rw[zde ls k n (ae HO) (by rw[ha];exact ae HZ) hlt,ha,← ae HZZ];rfl,ae B1⟩))
 ·obtain rfl:k=n:=by omega
  go_wp2
  go_ret
  exact⟨by rw[ae HO];rfl,ae HB⟩))
theorem znv (q:Option Addr) (n c:Nat) (ls:List Ln) (w:World) (hv:zic w (.slice q n c) ls) (lf:∀ l ∈ ls,zbn l.f 2000000) (hbig:∀ l ∈ ls,l.toB.size<9223372036854775808) :
   Calls prog 21 #[.slice q n c] w fun e w'=>e=.returned (.int .i64 (tyE ls))∧But [] w w':=by(
 have hnl:n=ls.length:=by
  obtain⟨a,cap,e,-⟩:=hv
  simp only[Value.slice.injEq] at e
  exact e.2.1
 unfold tyE
 by_cases h:40<ls.length
 ·rw[if_pos h]
  exact zlu q n c w (by omega)
 ·rw[if_neg h]
  exact znw _ ls w hv (by omega) lf hbig)
open Classical in
noncomputable def rxE (ls:List Ln):Int:=if tyE ls≠0 then tyE ls else if ∀ l ∈ ls,¬ (l.ti=0∧l.pr≠0) then 0 else 1
def rtB (ft:Rat→ByteArray) (it:Int→ByteArray) (s:ByteArray) (l:Ln):ByteArray :=
 if l.kd=1 then s++(⟨#[99,101,100,101,32]⟩++ft l.f)
 else if l.kd=2 then s++(((⟨#[115,117,114,112,108,117,115,32]⟩++it l.li)++⟨#[32,116,105,109,101,115,32]⟩)++it l.ti)
 else if l.kd=3 then
  if l.ti=0 then s++(((⟨#[101,120,99,101,115,115,32]⟩++it l.fr)++⟨#[32,108,105,109,105,116,32]⟩)++it l.li)
  else (s++(((⟨#[101,120,99,101,115,115,32]⟩++it l.fr)++⟨#[32,108,105,109,105,116,32]⟩)++it l.li))++(((⟨#[32,97,103,97,105,110,32]⟩++it l.ti)++⟨#[32,97,116,32]⟩)++it l.pr)
 else s++(((⟨#[115,116,111,112,32]⟩++it l.fr)++⟨#[32,108,105,109,105,116,32]⟩)++it l.li)
def rtS (ft:Rat→ByteArray) (it:Int→ByteArray) (s:ByteArray) (l:Ln):ByteArray:=rtB ft it s l++((⟨#[32,116,111,32]⟩++l.toB)++⟨#[10]⟩)
def rtL (ft:Rat→ByteArray) (it:Int→ByteArray) (ls:List Ln):Nat→ByteArray
 | 0=>⟨#[]⟩
 | k+1=>match ls[k]? with
  | some l=>rtS ft it (rtL ft it ls k) l
  | none=>rtL ft it ls k
theorem zjy (ft:Rat→ByteArray) (it:Int→ByteArray) (ls:List Ln) (k:Nat) (l:Ln) (h:ls[k]? = some l):rtL ft it ls (k+1)=rtS ft it (rtL ft it ls k) l:=by
 show (match ls[k]? with | some l=>rtS ft it (rtL ft it ls k) l | none=>rtL ft it ls k)=_
 rw[h]
theorem zf (x y:ByteArray):(x++y).size=x.size+y.size:=ByteArray.size_append
theorem lit_size (a:Array UInt8):(⟨a⟩:ByteArray).size=a.size:=rfl
theorem lm (ft:Rat→ByteArray) (it:Int→ByteArray) (s:ByteArray) (l:Ln) (h0:(ft l.f).size≤100) (h1:(it l.fr).size≤100) (h2:(it l.li).size≤100) (h3:(it l.ti).size≤100) (h4:(it l.pr).size≤100):(rtB ft it s l).size≤s.size+500:=by(
 unfold rtB
 split
 ·simp only[zf,lit_size,List.size_toArray,List.length_cons,List.length_nil]
  omega
 ·(
 split
 ·simp only[zf,lit_size,List.size_toArray,List.length_cons,List.length_nil]
  omega
 ·(
 split
 ·(
 split
 ·simp only[zf,lit_size,List.size_toArray,List.length_cons,List.length_nil]
  omega
 ·simp only[zf,lit_size,List.size_toArray,List.length_cons,List.length_nil]
  omega)
 ·simp only[zf,lit_size,List.size_toArray,List.length_cons,List.length_nil]
  omega)))
theorem zpw (ft:Rat→ByteArray) (it:Int→ByteArray) (ls:List Ln) (h:∀ l ∈ ls,(ft l.f).size≤100∧(it l.fr).size≤100∧(it l.li).size≤100∧(it l.ti).size≤100∧(it l.pr).size≤100∧l.toB.size≤100):∀ k,(rtL ft it ls k).size≤700*k
 | 0=>Nat.le_of_eq rfl
 | k+1=>by
  have ih:=zpw ft it ls h k
  cases hg:ls[k]? with
  | none =>
   have e:rtL ft it ls (k+1)=rtL ft it ls k:=by
    show (match ls[k]? with | some l=>rtS ft it (rtL ft it ls k) l | none=>rtL ft it ls k)=_
    rw[hg]
   rw[e];omega
  | some l =>
   rw[zjy ft it ls k l hg]
   obtain⟨a0,a1,a2,a3,a4,a5⟩:=h l (List.mem_of_getElem? hg)
   have hb:=lm ft it (rtL ft it ls k) l a0 a1 a2 a3 a4
   unfold rtS
   simp only[zf,lit_size,List.size_toArray,List.length_cons,List.length_nil]
   omega
end Go.Proofs.YtjlfllhedceigaaGreatDoor
