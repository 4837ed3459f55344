/- A treaty's text, as the reference writes -/
import Derived.Test.YtjlfllhedceigaaGreatDoorRTWj
namespace Go.Proofs.YtjlfllhedceigaaGreatDoor
open Go.Proofs.Tryz
open Go.RowKit
set_option maxHeartbeats 32000000
set_option maxRecDepth 100000
set_option linter.unusedVariables false
theorem av:∀ args W,(callFunc 78 args).run prog W=.ok (.enter 78 args) W:=enters_of func78 (by kernel_rfl) rfl
theorem zey (ft:Rat→ByteArray) (it:Int→ByteArray) (q:Option Addr) (n c:Nat) (ls:List Ln) (w:World) (hv:zic w (.slice q n c) ls) (lf:∀ l ∈ ls,zbn l.f 2000000) (hbig:∀ l ∈ ls,l.toB.size<9223372036854775808)
   (TX:∀ l ∈ ls,∀ zb W,But [] w W→zx W zb l.f→Calls prog 13 #[.pointer (some ⟨zb,0,none⟩)] W fun e w'=>e=.returned (.string (ft l.f))∧But [] W w') (TS:∀ l ∈ ls,(ft l.f).size≤100)
   (IT:∀ z W,0≤z→z≤1000000000000→But [] w W→Calls prog 78 #[.int .i64 z] W fun e w'=>e=.returned (.string (it z))∧But [] W w') (IS:∀ z,0≤z→z≤1000000000000→(it z).size≤100) :
   Calls prog 24 #[.slice q n c] w fun e w'=>e=.returned (.tuple #[.string (if rxE ls=0 then rtL ft it ls n else ⟨#[]⟩),.int .i64 (rxE ls)])∧But [] w w':=by(
 have hnl:n=ls.length:=by
  obtain⟨a,cap,e,-⟩:=hv
  simp only[Value.slice.injEq] at e
  exact e.2.1
 have CH:=af (znv q n c ls w hv lf hbig)
 have HV:=af hv
 have HNL:=af hnl
 have HTX:=af TX
 have HTS:=af TS
 have HIT:=af IT
 have HIS:=af IS
 obtain⟨RZ,hRZ⟩:∃ RZ,RZ=rxE ls:=⟨_,rfl⟩
 obtain⟨RT,hRT⟩:∃ RT,RT=(if rxE ls=0 then rtL ft it ls n else ⟨#[]⟩):=⟨_,rfl⟩
 have ONE:Hid (rxE ls=1→RZ=1∧RT=⟨#[]⟩):=fun h=>⟨by rw[hRZ,h],by rw[hRT,h];rfl⟩
 have NUL:Hid (rxE ls=0→RZ=0∧RT=rtL ft it ls n):=fun h=>⟨by rw[hRZ,h],by rw[hRT,if_pos h]⟩
 have OTH:Hid (∀ z,rxE ls=z→z≠0→RZ=z∧RT=⟨#[]⟩):=fun z h h2=>⟨by rw[hRZ,h],by rw[hRT,h,if_neg h2]⟩
 rw[← hRT,← hRZ]
 clear hv lf hbig TX TS IT IS hnl hRT hRZ
 go_enter func24,ntmps24
 go_wp2_with fail
 refine (ae CH).mono ?_
 rintro e w1 ⟨rfl,hb1⟩
 have HB1:=af hb1
 clear hb1 CH
 by_cases hz:tyE ls=0
 ·(
 obtain⟨ok40,okT⟩:=zrn ls hz
 rw[← ae HNL] at ok40 okT
 have HOK:=af okT
 have HZ:=af hz
 rw[hz]
 clear hz okT
 go_wp2
 go_loopw [5,16] (fun sv iv wr=>∃ k:Nat,k≤n∧iv=.int .i64 (k:Int)∧sv=.string (rtL ft it ls k)∧Hid (∀ j l,j<k→ls[j]? = some l→¬ (l.ti=0∧l.pr≠0))∧Hid (But [] w wr)) (fun _ iv _=>n-(intOf iv).toNat)
 case atStart=>exact⟨0,Nat.zero_le _,rfl,rfl,fun j l hj=>absurd hj (by omega),ae HB1⟩
 case round =>(
 obtain⟨k,hk,rfl,rfl,HP,HB⟩:=hrel
 rename World=>wr
 by_cases hlt:k<n
 ·(
 have hkl:k<ls.length:=by have:=ae HNL;omega
 obtain⟨l,hge⟩:∃ l,ls[k]? = some l:=⟨_,List.getElem?_eq_getElem hkl⟩
 have hmem:=List.mem_of_getElem? hge
 obtain⟨hlo,-⟩:=ae HOK k l hlt hge
 have SB:Hid ((rtL ft it ls k).size≤700*k):=zpw ft it ls (fun l hl=>by
  obtain⟨j,hj,rfl⟩:=List.getElem_of_mem hl
  obtain⟨⟨-,hn2,⟨r1,r2,r3,r4⟩,-⟩,-⟩:=ae HOK j _ (by have:=ae HNL;omega) (List.getElem?_eq_getElem hj)
  exact⟨ae HTS _ hl,ae HIS _ r1.1 r1.2,ae HIS _ r2.1 r2.2,ae HIS _ r4.1 (by omega),ae HIS _ r3.1 r3.2,by have:=hn2.2.2;omega⟩) k
 obtain⟨a',cap',ea,hca,hla⟩:=(ae HV).but (ae HB)
 simp only[Value.slice.injEq] at ea
 obtain⟨b,off,e1,zb,hcs,hf⟩:=hla k l hge
 obtain rfl:q=some ⟨b,off,none⟩:=ea.1.trans e1
 have hcn:n≤c:=by rw[ea.2.2];have:=ae HNL;omega
 have c0:=hcs 0 _ rfl
 have c1:=hcs 1 _ rfl
 have c2:=hcs 2 _ rfl
 have c3:=hcs 3 _ rfl
 have c4:=hcs 4 _ rfl
 have c5:=hcs 5 _ rfl
 have c6:=hcs 6 _ rfl
 rw[Nat.add_zero] at c0
 have TXL:=af (ae HTX l hmem zb)
 have hts:=ae HTS l hmem
 have HGE:=af hge
 have HMEM:=af hmem
 have NXT:=af (zjy ft it ls k l hge)
 obtain⟨⟨k1,k4⟩,hnm,⟨r1,r2,r3,r4⟩,-⟩:=hlo
 have i1:=ae HIS _ r1.1 r1.2
 have i2:=ae HIS _ r2.1 r2.2
 have i3:=ae HIS _ r3.1 r3.2
 have i4:=ae HIS _ r4.1 (show l.ti≤1000000000000 by omega)
 have n20:l.toB.size≤20:=hnm.2.2
 have IFR:=af (fun W=>ae HIT l.fr W r1.1 r1.2)
 have ILI:=af (fun W=>ae HIT l.li W r2.1 r2.2)
 have IPR:=af (fun W=>ae HIT l.pr W r3.1 r3.2)
 have ITI:=af (fun W=>ae HIT l.ti W r4.1 (by omega))
 have bA:But [] wr (wr.alloc (.cells #[.int .i64 l.kd,.pointer (some ⟨zb,0,none⟩),.int .i64 l.fr,.int .i64 l.li,.int .i64 l.ti,.int .i64 l.pr,.string l.toB] 135)):=(But.refl [] wr).alloc _
 have BA:=af ((ae HB).trans' bA)
 have HF:=af (hf.but bA)
 have HLP:Hid (¬ (l.ti=0∧l.pr≠0)→∀ j m,j<k+1→ls[j]? = some m→¬ (m.ti=0∧m.pr≠0)):=fun hp j m hj hm=>by
  rcases Nat.lt_or_ge j k with h | h
  ·exact ae HP j m h hm
  ·obtain rfl:j=k:=by omega
   obtain rfl:=Option.some.inj ((ae HGE).symm.trans hm)
   exact hp
 have hss:=ae SB
 obtain⟨S,hS⟩:∃ S,S=rtL ft it ls k:=⟨_,rfl⟩
 rw[← hS] at hss NXT ⊢
 have hkk:k≤40:=by omega
 clear hS SB ea e1 hla hca hcs hf hge hmem hkl bA r1 r2 r3 r4 hnm HB
 by_cases hbad:l.ti=0∧l.pr≠0
 ·(
 have b4:(l.ti==0)=true:=by rw[hbad.1];rfl
 have b5:(l.pr != 0)=true:=by simpa using hbad.2
 have RX:Hid (rxE ls=1):=by
  show rxE ls=1
  unfold rxE
  rw[if_neg (fun h=>h (ae HZ)),if_neg (fun h=>h l (ae HMEM) hbad)]
 clear hbad
 go_wp2
 exact bodyPost_ret (v:=.tuple #[.string ⟨#[]⟩,.int .i64 1]) (by simp[results,results24,go_sem]) rfl ⟨by rw[(ae ONE (ae RX)).1,(ae ONE (ae RX)).2],ae BA⟩)
 ·(
 have HP2:=af (ae HLP hbad)
 have hti:l.ti=0→l.pr=0:=fun h=>by
  by_cases h2:l.pr=0
  ·exact h2
  ·exact absurd ⟨h,h2⟩ hbad
 clear HLP hbad HP
 have hk4:l.kd=1∨l.kd=2∨l.kd=3∨l.kd=4:=by omega
 by_cases ht0:l.ti=0
 ·(
 have b4:(l.ti==0)=true:=by rw[ht0];rfl
 have b5:(l.pr != 0)=false:=by rw[hti ht0];rfl
 have HT0:=af ht0
 clear ht0 hti
 rcases hk4 with kk | kk | kk | kk
 ·(
 have kb1:(l.kd==1)=true:=by rw[kk];rfl
 have kb2:(l.kd==2)=false:=by rw[kk];rfl
 have kb3:(l.kd==3)=false:=by rw[kk];rfl
 have kb4:(l.kd==4)=false:=by rw[kk];rfl
 have KK:=af kk
 clear kk
 go_wp2_with fail
 refine (ae TXL _ (ae BA) (ae HF)).mono ?_
 rintro e w5 ⟨rfl,hbw5⟩
 have Bw5:=af ((ae BA).trans' hbw5)
 have z1:(⟨#[99,101,100,101,32]⟩:ByteArray).size+(ft l.f).size≤9223372036854775807:=(by simp only[lit_size,List.size_toArray,List.length_cons,List.length_nil];omega)
 have z2:S.size+(⟨#[99,101,100,101,32]⟩++ft l.f).size≤9223372036854775807:=(by simp only[zf,lit_size,List.size_toArray,List.length_cons,List.length_nil];omega)
 have y4:w5.cell? ⟨wr.heap.size,4,none⟩=some (.int .i64 l.ti):=hbw5.ag (by simp) (by simp)
 have y5:w5.cell? ⟨wr.heap.size,5,none⟩=some (.int .i64 l.pr):=hbw5.ag (by simp) (by simp)
 have y6:w5.cell? ⟨wr.heap.size,6,none⟩=some (.string l.toB):=hbw5.ag (by simp) (by simp)
 clear hbw5
 go_wp2_with fail
 have X0:rtB ft it S l=S++(⟨#[99,101,100,101,32]⟩++ft l.f):=by have kk:=ae KK;have ht0:=ae HT0;unfold rtB;rw[if_pos kk]
 have XS:=lm ft it S l hts i1 i2 i4 i3
 rw[← X0]
 have NX2:rtS ft it S l=rtB ft it S l++((⟨#[32,116,111,32]⟩++l.toB)++⟨#[10]⟩):=rfl
 have z5:(⟨#[32,116,111,32]⟩:ByteArray).size+l.toB.size≤9223372036854775807:=(by simp only[lit_size,List.size_toArray,List.length_cons,List.length_nil];omega)
 have z6:(⟨#[32,116,111,32]⟩++l.toB).size+(⟨#[10]⟩:ByteArray).size≤9223372036854775807:=(by simp only[zf,lit_size,List.size_toArray,List.length_cons,List.length_nil];omega)
 have z7:(rtB ft it S l).size+((⟨#[32,116,111,32]⟩++l.toB)++⟨#[10]⟩).size≤9223372036854775807:=(by simp only[zf,lit_size,List.size_toArray,List.length_cons,List.length_nil];omega)
 generalize rtB ft it S l=XB at *
 clear X0 XS
 go_wp2
 exact⟨⟨k+1,by omega,by go_num,by rw[ae NXT,NX2],ae HP2,ae Bw5⟩,by simp[intOf];omega⟩)
 ·(
 have kb1:(l.kd==1)=false:=by rw[kk];rfl
 have kb2:(l.kd==2)=true:=by rw[kk];rfl
 have kb3:(l.kd==3)=false:=by rw[kk];rfl
 have kb4:(l.kd==4)=false:=by rw[kk];rfl
 have KK:=af kk
 clear kk
 go_wp2_with fail
 refine zer 15 _ _ _ wr.heap.size S l.li l.ti (it l.li) (it l.ti) (by simp) (by simp[Act.eval]) (by simp[Act.eval]) (by simp[Act.eval]) (by simp only[lit_size,List.size_toArray,List.length_cons,List.length_nil];omega) (by simp only[zf,lit_size,List.size_toArray,List.length_cons,List.length_nil];omega) (by simp only[zf,lit_size,List.size_toArray,List.length_cons,List.length_nil];omega) (by simp only[zf,lit_size,List.size_toArray,List.length_cons,List.length_nil];omega) (by simp) (by simp) av (fun W hb=>ae ILI W ((ae BA).trans' hb)) (fun W hb=>ae ITI W ((ae BA).trans' hb)) ?_
 intro w5 hbw5
 have Bw5:=af ((ae BA).trans' hbw5)
 simp only[bi,List.foldl_cons,List.foldl_nil,Act.put,List.setIfInBounds_toArray,List.set_cons_zero,List.set_cons_succ]
 have y4:w5.cell? ⟨wr.heap.size,4,none⟩=some (.int .i64 l.ti):=hbw5.ag (by simp) (by simp)
 have y5:w5.cell? ⟨wr.heap.size,5,none⟩=some (.int .i64 l.pr):=hbw5.ag (by simp) (by simp)
 have y6:w5.cell? ⟨wr.heap.size,6,none⟩=some (.string l.toB):=hbw5.ag (by simp) (by simp)
 clear hbw5
 have X0:rtB ft it S l=S++(((⟨#[115,117,114,112,108,117,115,32]⟩++it l.li)++⟨#[32,116,105,109,101,115,32]⟩)++it l.ti):=by have kk:=ae KK;have ht0:=ae HT0;unfold rtB;rw[if_neg (by omega),if_pos kk]
 have XS:=lm ft it S l hts i1 i2 i4 i3
 rw[← X0]
 have NX2:rtS ft it S l=rtB ft it S l++((⟨#[32,116,111,32]⟩++l.toB)++⟨#[10]⟩):=rfl
 have z5:(⟨#[32,116,111,32]⟩:ByteArray).size+l.toB.size≤9223372036854775807:=(by simp only[lit_size,List.size_toArray,List.length_cons,List.length_nil];omega)
 have z6:(⟨#[32,116,111,32]⟩++l.toB).size+(⟨#[10]⟩:ByteArray).size≤9223372036854775807:=(by simp only[zf,lit_size,List.size_toArray,List.length_cons,List.length_nil];omega)
 have z7:(rtB ft it S l).size+((⟨#[32,116,111,32]⟩++l.toB)++⟨#[10]⟩).size≤9223372036854775807:=(by simp only[zf,lit_size,List.size_toArray,List.length_cons,List.length_nil];omega)
 generalize rtB ft it S l=XB at *
 clear X0 XS
 go_wp2
 exact⟨⟨k+1,by omega,by go_num,by rw[ae NXT,NX2],ae HP2,ae Bw5⟩,by simp[intOf];omega⟩)
 ·(
 have b9:(l.ti != 0)=false:=by rw[show l.ti=0 from ae HT0];rfl
 have kb1:(l.kd==1)=false:=by rw[kk];rfl
 have kb2:(l.kd==2)=false:=by rw[kk];rfl
 have kb3:(l.kd==3)=true:=by rw[kk];rfl
 have kb4:(l.kd==4)=false:=by rw[kk];rfl
 have KK:=af kk
 clear kk
 go_wp2_with fail
 refine zhb 17 _ _ _ wr.heap.size S l.fr l.li (it l.fr) (it l.li) (by simp) (by simp[Act.eval]) (by simp[Act.eval]) (by simp[Act.eval]) (by simp only[lit_size,List.size_toArray,List.length_cons,List.length_nil];omega) (by simp only[zf,lit_size,List.size_toArray,List.length_cons,List.length_nil];omega) (by simp only[zf,lit_size,List.size_toArray,List.length_cons,List.length_nil];omega) (by simp only[zf,lit_size,List.size_toArray,List.length_cons,List.length_nil];omega) (by simp) (by simp) av (fun W hb=>ae IFR W ((ae BA).trans' hb)) (fun W hb=>ae ILI W ((ae BA).trans' hb)) ?_
 intro w5 hbw5
 have Bw5:=af ((ae BA).trans' hbw5)
 simp only[bi,List.foldl_cons,List.foldl_nil,Act.put,List.setIfInBounds_toArray,List.set_cons_zero,List.set_cons_succ]
 have y4:w5.cell? ⟨wr.heap.size,4,none⟩=some (.int .i64 l.ti):=hbw5.ag (by simp) (by simp)
 have y5:w5.cell? ⟨wr.heap.size,5,none⟩=some (.int .i64 l.pr):=hbw5.ag (by simp) (by simp)
 have y6:w5.cell? ⟨wr.heap.size,6,none⟩=some (.string l.toB):=hbw5.ag (by simp) (by simp)
 clear hbw5
 have X0:rtB ft it S l=S++(((⟨#[101,120,99,101,115,115,32]⟩++it l.fr)++⟨#[32,108,105,109,105,116,32]⟩)++it l.li):=by have kk:=ae KK;have ht0:=ae HT0;unfold rtB;rw[if_neg (by omega),if_neg (by omega),if_pos kk,if_pos ht0]
 have XS:=lm ft it S l hts i1 i2 i4 i3
 rw[← X0]
 have NX2:rtS ft it S l=rtB ft it S l++((⟨#[32,116,111,32]⟩++l.toB)++⟨#[10]⟩):=rfl
 have z5:(⟨#[32,116,111,32]⟩:ByteArray).size+l.toB.size≤9223372036854775807:=(by simp only[lit_size,List.size_toArray,List.length_cons,List.length_nil];omega)
 have z6:(⟨#[32,116,111,32]⟩++l.toB).size+(⟨#[10]⟩:ByteArray).size≤9223372036854775807:=(by simp only[zf,lit_size,List.size_toArray,List.length_cons,List.length_nil];omega)
 have z7:(rtB ft it S l).size+((⟨#[32,116,111,32]⟩++l.toB)++⟨#[10]⟩).size≤9223372036854775807:=(by simp only[zf,lit_size,List.size_toArray,List.length_cons,List.length_nil];omega)
 generalize rtB ft it S l=XB at *
 clear X0 XS
 go_wp2
 exact⟨⟨k+1,by omega,by go_num,by rw[ae NXT,NX2],ae HP2,ae Bw5⟩,by simp[intOf];omega⟩)
 ·(
 have kb1:(l.kd==1)=false:=by rw[kk];rfl
 have kb2:(l.kd==2)=false:=by rw[kk];rfl
 have kb3:(l.kd==3)=false:=by rw[kk];rfl
 have kb4:(l.kd==4)=true:=by rw[kk];rfl
 have KK:=af kk
 clear kk
 go_wp2_with fail
 refine zml 21 _ _ _ wr.heap.size S l.fr l.li (it l.fr) (it l.li) (by simp) (by simp[Act.eval]) (by simp[Act.eval]) (by simp[Act.eval]) (by simp only[lit_size,List.size_toArray,List.length_cons,List.length_nil];omega) (by simp only[zf,lit_size,List.size_toArray,List.length_cons,List.length_nil];omega) (by simp only[zf,lit_size,List.size_toArray,List.length_cons,List.length_nil];omega) (by simp only[zf,lit_size,List.size_toArray,List.length_cons,List.length_nil];omega) (by simp) (by simp) av (fun W hb=>ae IFR W ((ae BA).trans' hb)) (fun W hb=>ae ILI W ((ae BA).trans' hb)) ?_
 intro w5 hbw5
 have Bw5:=af ((ae BA).trans' hbw5)
 simp only[bi,List.foldl_cons,List.foldl_nil,Act.put,List.setIfInBounds_toArray,List.set_cons_zero,List.set_cons_succ]
 have y4:w5.cell? ⟨wr.heap.size,4,none⟩=some (.int .i64 l.ti):=hbw5.ag (by simp) (by simp)
 have y5:w5.cell? ⟨wr.heap.size,5,none⟩=some (.int .i64 l.pr):=hbw5.ag (by simp) (by simp)
 have y6:w5.cell? ⟨wr.heap.size,6,none⟩=some (.string l.toB):=hbw5.ag (by simp) (by simp)
 clear hbw5
 have X0:rtB ft it S l=S++(((⟨#[115,116,111,112,32]⟩++it l.fr)++⟨#[32,108,105,109,105,116,32]⟩)++it l.li):=by have kk:=ae KK;have ht0:=ae HT0;unfold rtB;rw[if_neg (by omega),if_neg (by omega),if_neg (by omega)]
 have XS:=lm ft it S l hts i1 i2 i4 i3
 rw[← X0]
 have NX2:rtS ft it S l=rtB ft it S l++((⟨#[32,116,111,32]⟩++l.toB)++⟨#[10]⟩):=rfl
 have z5:(⟨#[32,116,111,32]⟩:ByteArray).size+l.toB.size≤9223372036854775807:=(by simp only[lit_size,List.size_toArray,List.length_cons,List.length_nil];omega)
 have z6:(⟨#[32,116,111,32]⟩++l.toB).size+(⟨#[10]⟩:ByteArray).size≤9223372036854775807:=(by simp only[zf,lit_size,List.size_toArray,List.length_cons,List.length_nil];omega)
 have z7:(rtB ft it S l).size+((⟨#[32,116,111,32]⟩++l.toB)++⟨#[10]⟩).size≤9223372036854775807:=(by simp only[zf,lit_size,List.size_toArray,List.length_cons,List.length_nil];omega)
 generalize rtB ft it S l=XB at *
 clear X0 XS
 go_wp2
 exact⟨⟨k+1,by omega,by go_num,by rw[ae NXT,NX2],ae HP2,ae Bw5⟩,by simp[intOf];omega⟩))
 ·(
 have b4:(l.ti==0)=false:=by simpa using ht0
 have HT0:=af ht0
 clear ht0 hti
 rcases hk4 with kk | kk | kk | kk
 ·(
 have kb1:(l.kd==1)=true:=by rw[kk];rfl
 have kb2:(l.kd==2)=false:=by rw[kk];rfl
 have kb3:(l.kd==3)=false:=by rw[kk];rfl
 have kb4:(l.kd==4)=false:=by rw[kk];rfl
 have KK:=af kk
 clear kk
 go_wp2_with fail
 refine (ae TXL _ (ae BA) (ae HF)).mono ?_
 rintro e w5 ⟨rfl,hbw5⟩
 have Bw5:=af ((ae BA).trans' hbw5)
 have z1:(⟨#[99,101,100,101,32]⟩:ByteArray).size+(ft l.f).size≤9223372036854775807:=(by simp only[lit_size,List.size_toArray,List.length_cons,List.length_nil];omega)
 have z2:S.size+(⟨#[99,101,100,101,32]⟩++ft l.f).size≤9223372036854775807:=(by simp only[zf,lit_size,List.size_toArray,List.length_cons,List.length_nil];omega)
 have y4:w5.cell? ⟨wr.heap.size,4,none⟩=some (.int .i64 l.ti):=hbw5.ag (by simp) (by simp)
 have y5:w5.cell? ⟨wr.heap.size,5,none⟩=some (.int .i64 l.pr):=hbw5.ag (by simp) (by simp)
 have y6:w5.cell? ⟨wr.heap.size,6,none⟩=some (.string l.toB):=hbw5.ag (by simp) (by simp)
 clear hbw5
 go_wp2_with fail
 have X0:rtB ft it S l=S++(⟨#[99,101,100,101,32]⟩++ft l.f):=by have kk:=ae KK;have ht0:=ae HT0;unfold rtB;rw[if_pos kk]
 have XS:=lm ft it S l hts i1 i2 i4 i3
 rw[← X0]
 have NX2:rtS ft it S l=rtB ft it S l++((⟨#[32,116,111,32]⟩++l.toB)++⟨#[10]⟩):=rfl
 have z5:(⟨#[32,116,111,32]⟩:ByteArray).size+l.toB.size≤9223372036854775807:=(by simp only[lit_size,List.size_toArray,List.length_cons,List.length_nil];omega)
 have z6:(⟨#[32,116,111,32]⟩++l.toB).size+(⟨#[10]⟩:ByteArray).size≤9223372036854775807:=(by simp only[zf,lit_size,List.size_toArray,List.length_cons,List.length_nil];omega)
 have z7:(rtB ft it S l).size+((⟨#[32,116,111,32]⟩++l.toB)++⟨#[10]⟩).size≤9223372036854775807:=(by simp only[zf,lit_size,List.size_toArray,List.length_cons,List.length_nil];omega)
 generalize rtB ft it S l=XB at *
 clear X0 XS
 go_wp2
 exact⟨⟨k+1,by omega,by go_num,by rw[ae NXT,NX2],ae HP2,ae Bw5⟩,by simp[intOf];omega⟩)
 ·(
 have kb1:(l.kd==1)=false:=by rw[kk];rfl
 have kb2:(l.kd==2)=true:=by rw[kk];rfl
 have kb3:(l.kd==3)=false:=by rw[kk];rfl
 have kb4:(l.kd==4)=false:=by rw[kk];rfl
 have KK:=af kk
 clear kk
 go_wp2_with fail
 refine zer 15 _ _ _ wr.heap.size S l.li l.ti (it l.li) (it l.ti) (by simp) (by simp[Act.eval]) (by simp[Act.eval]) (by simp[Act.eval]) (by simp only[lit_size,List.size_toArray,List.length_cons,List.length_nil];omega) (by simp only[zf,lit_size,List.size_toArray,List.length_cons,List.length_nil];omega) (by simp only[zf,lit_size,List.size_toArray,List.length_cons,List.length_nil];omega) (by simp only[zf,lit_size,List.size_toArray,List.length_cons,List.length_nil];omega) (by simp) (by simp) av (fun W hb=>ae ILI W ((ae BA).trans' hb)) (fun W hb=>ae ITI W ((ae BA).trans' hb)) ?_
 intro w5 hbw5
 have Bw5:=af ((ae BA).trans' hbw5)
 simp only[bi,List.foldl_cons,List.foldl_nil,Act.put,List.setIfInBounds_toArray,List.set_cons_zero,List.set_cons_succ]
 have y4:w5.cell? ⟨wr.heap.size,4,none⟩=some (.int .i64 l.ti):=hbw5.ag (by simp) (by simp)
 have y5:w5.cell? ⟨wr.heap.size,5,none⟩=some (.int .i64 l.pr):=hbw5.ag (by simp) (by simp)
 have y6:w5.cell? ⟨wr.heap.size,6,none⟩=some (.string l.toB):=hbw5.ag (by simp) (by simp)
 clear hbw5
 have X0:rtB ft it S l=S++(((⟨#[115,117,114,112,108,117,115,32]⟩++it l.li)++⟨#[32,116,105,109,101,115,32]⟩)++it l.ti):=by have kk:=ae KK;have ht0:=ae HT0;unfold rtB;rw[if_neg (by omega),if_pos kk]
 have XS:=lm ft it S l hts i1 i2 i4 i3
 rw[← X0]
 have NX2:rtS ft it S l=rtB ft it S l++((⟨#[32,116,111,32]⟩++l.toB)++⟨#[10]⟩):=rfl
 have z5:(⟨#[32,116,111,32]⟩:ByteArray).size+l.toB.size≤9223372036854775807:=(by simp only[lit_size,List.size_toArray,List.length_cons,List.length_nil];omega)
 have z6:(⟨#[32,116,111,32]⟩++l.toB).size+(⟨#[10]⟩:ByteArray).size≤9223372036854775807:=(by simp only[zf,lit_size,List.size_toArray,List.length_cons,List.length_nil];omega)
 have z7:(rtB ft it S l).size+((⟨#[32,116,111,32]⟩++l.toB)++⟨#[10]⟩).size≤9223372036854775807:=(by simp only[zf,lit_size,List.size_toArray,List.length_cons,List.length_nil];omega)
 generalize rtB ft it S l=XB at *
 clear X0 XS
 go_wp2
 exact⟨⟨k+1,by omega,by go_num,by rw[ae NXT,NX2],ae HP2,ae Bw5⟩,by simp[intOf];omega⟩)
 ·(
 have b9:(l.ti != 0)=true:=by have:=ae HT0;simpa using this
 have kb1:(l.kd==1)=false:=by rw[kk];rfl
 have kb2:(l.kd==2)=false:=by rw[kk];rfl
 have kb3:(l.kd==3)=true:=by rw[kk];rfl
 have kb4:(l.kd==4)=false:=by rw[kk];rfl
 have KK:=af kk
 clear kk
 go_wp2_with fail
 refine zhb 17 _ _ _ wr.heap.size S l.fr l.li (it l.fr) (it l.li) (by simp) (by simp[Act.eval]) (by simp[Act.eval]) (by simp[Act.eval]) (by simp only[lit_size,List.size_toArray,List.length_cons,List.length_nil];omega) (by simp only[zf,lit_size,List.size_toArray,List.length_cons,List.length_nil];omega) (by simp only[zf,lit_size,List.size_toArray,List.length_cons,List.length_nil];omega) (by simp only[zf,lit_size,List.size_toArray,List.length_cons,List.length_nil];omega) (by simp) (by simp) av (fun W hb=>ae IFR W ((ae BA).trans' hb)) (fun W hb=>ae ILI W ((ae BA).trans' hb)) ?_
 intro w5 hbw5
 have Bw5:=af ((ae BA).trans' hbw5)
 simp only[bi,List.foldl_cons,List.foldl_nil,Act.put,List.setIfInBounds_toArray,List.set_cons_zero,List.set_cons_succ]
 have y4:w5.cell? ⟨wr.heap.size,4,none⟩=some (.int .i64 l.ti):=hbw5.ag (by simp) (by simp)
 have y5:w5.cell? ⟨wr.heap.size,5,none⟩=some (.int .i64 l.pr):=hbw5.ag (by simp) (by simp)
 have y6:w5.cell? ⟨wr.heap.size,6,none⟩=some (.string l.toB):=hbw5.ag (by simp) (by simp)
 clear hbw5
 go_wp2_with fail
 refine zro 19 _ _ _ wr.heap.size (S++(((⟨#[101,120,99,101,115,115,32]⟩++it l.fr)++⟨#[32,108,105,109,105,116,32]⟩)++it l.li)) l.ti l.pr (it l.ti) (it l.pr) (by simp) (by simp[Act.eval]) (by simp[Act.eval]) (by simp[Act.eval]) (by simp only[lit_size,List.size_toArray,List.length_cons,List.length_nil];omega) (by simp only[zf,lit_size,List.size_toArray,List.length_cons,List.length_nil];omega) (by simp only[zf,lit_size,List.size_toArray,List.length_cons,List.length_nil];omega) (by simp only[zf,lit_size,List.size_toArray,List.length_cons,List.length_nil];omega) (y4) (y5) av (fun W hb=>ae ITI W ((ae Bw5).trans' hb)) (fun W hb=>ae IPR W ((ae Bw5).trans' hb)) ?_
 intro w6 hbw6
 have Bw6:=af ((ae Bw5).trans' hbw6)
 simp only[bi,List.foldl_cons,List.foldl_nil,Act.put,List.setIfInBounds_toArray,List.set_cons_zero,List.set_cons_succ]
 have x4:w6.cell? ⟨wr.heap.size,4,none⟩=some (.int .i64 l.ti):=hbw6.ag y4 (by simp)
 have x5:w6.cell? ⟨wr.heap.size,5,none⟩=some (.int .i64 l.pr):=hbw6.ag y5 (by simp)
 have x6:w6.cell? ⟨wr.heap.size,6,none⟩=some (.string l.toB):=hbw6.ag y6 (by simp)
 clear hbw6
 have X0:rtB ft it S l=(S++(((⟨#[101,120,99,101,115,115,32]⟩++it l.fr)++⟨#[32,108,105,109,105,116,32]⟩)++it l.li))++(((⟨#[32,97,103,97,105,110,32]⟩++it l.ti)++⟨#[32,97,116,32]⟩)++it l.pr):=by have kk:=ae KK;have ht0:=ae HT0;unfold rtB;rw[if_neg (by omega),if_neg (by omega),if_pos kk,if_neg ht0]
 have XS:=lm ft it S l hts i1 i2 i4 i3
 rw[← X0]
 have NX2:rtS ft it S l=rtB ft it S l++((⟨#[32,116,111,32]⟩++l.toB)++⟨#[10]⟩):=rfl
 have z5:(⟨#[32,116,111,32]⟩:ByteArray).size+l.toB.size≤9223372036854775807:=(by simp only[lit_size,List.size_toArray,List.length_cons,List.length_nil];omega)
 have z6:(⟨#[32,116,111,32]⟩++l.toB).size+(⟨#[10]⟩:ByteArray).size≤9223372036854775807:=(by simp only[zf,lit_size,List.size_toArray,List.length_cons,List.length_nil];omega)
 have z7:(rtB ft it S l).size+((⟨#[32,116,111,32]⟩++l.toB)++⟨#[10]⟩).size≤9223372036854775807:=(by simp only[zf,lit_size,List.size_toArray,List.length_cons,List.length_nil];omega)
 generalize rtB ft it S l=XB at *
 clear X0 XS
 go_wp2
 exact⟨⟨k+1,by omega,by go_num,by rw[ae NXT,NX2],ae HP2,ae Bw6⟩,by simp[intOf];omega⟩)
 ·(
 have kb1:(l.kd==1)=false:=by rw[kk];rfl
 have kb2:(l.kd==2)=false:=by rw[kk];rfl
 have kb3:(l.kd==3)=false:=by rw[kk];rfl
 have kb4:(l.kd==4)=true:=by rw[kk];rfl
 have KK:=af kk
 clear kk
 go_wp2_with fail
 refine zml 21 _ _ _ wr.heap.size S l.fr l.li (it l.fr) (it l.li) (by simp) (by simp[Act.eval]) (by simp[Act.eval]) (by simp[Act.eval]) (by simp only[lit_size,List.size_toArray,List.length_cons,List.length_nil];omega) (by simp only[zf,lit_size,List.size_toArray,List.length_cons,List.length_nil];omega) (by simp only[zf,lit_size,List.size_toArray,List.length_cons,List.length_nil];omega) (by simp only[zf,lit_size,List.size_toArray,List.length_cons,List.length_nil];omega) (by simp) (by simp) av (fun W hb=>ae IFR W ((ae BA).trans' hb)) (fun W hb=>ae ILI W ((ae BA).trans' hb)) ?_
 intro w5 hbw5
 have Bw5:=af ((ae BA).trans' hbw5)
 simp only[bi,List.foldl_cons,List.foldl_nil,Act.put,List.setIfInBounds_toArray,List.set_cons_zero,List.set_cons_succ]
 have y4:w5.cell? ⟨wr.heap.size,4,none⟩=some (.int .i64 l.ti):=hbw5.ag (by simp) (by simp)
 have y5:w5.cell? ⟨wr.heap.size,5,none⟩=some (.int .i64 l.pr):=hbw5.ag (by simp) (by simp)
 have y6:w5.cell? ⟨wr.heap.size,6,none⟩=some (.string l.toB):=hbw5.ag (by simp) (by simp)
 clear hbw5
 have X0:rtB ft it S l=S++(((⟨#[115,116,111,112,32]⟩++it l.fr)++⟨#[32,108,105,109,105,116,32]⟩)++it l.li):=by have kk:=ae KK;have ht0:=ae HT0;unfold rtB;rw[if_neg (by omega),if_neg (by omega),if_neg (by omega)]
 have XS:=lm ft it S l hts i1 i2 i4 i3
 rw[← X0]
 have NX2:rtS ft it S l=rtB ft it S l++((⟨#[32,116,111,32]⟩++l.toB)++⟨#[10]⟩):=rfl
 have z5:(⟨#[32,116,111,32]⟩:ByteArray).size+l.toB.size≤9223372036854775807:=(by simp only[lit_size,List.size_toArray,List.length_cons,List.length_nil];omega)
 have z6:(⟨#[32,116,111,32]⟩++l.toB).size+(⟨#[10]⟩:ByteArray).size≤9223372036854775807:=(by simp only[zf,lit_size,List.size_toArray,List.length_cons,List.length_nil];omega)
 have z7:(rtB ft it S l).size+((⟨#[32,116,111,32]⟩++l.toB)++⟨#[10]⟩).size≤9223372036854775807:=(by simp only[zf,lit_size,List.size_toArray,List.length_cons,List.length_nil];omega)
 generalize rtB ft it S l=XB at *
 clear X0 XS
 go_wp2
 exact⟨⟨k+1,by omega,by go_num,by rw[ae NXT,NX2],ae HP2,ae Bw5⟩,by simp[intOf];omega⟩))))
 ·(
 obtain rfl:k=n:=by omega
 have RX:Hid (rxE ls=0):=by
  show rxE ls=0
  unfold rxE
  rw[if_neg (fun h=>h (ae HZ)),if_pos (fun l hl=>by
   obtain⟨j,hj,rfl⟩:=List.getElem_of_mem hl
   exact ae HP j _ (by have:=ae HNL;omega) (List.getElem?_eq_getElem hj))]
 go_wp2
 exact bodyPost_ret (v:=.tuple #[.string (rtL ft it ls k),.int .i64 0]) (by simp[results,results24,go_sem]) rfl ⟨by rw[(ae NUL (ae RX)).1,(ae NUL (ae RX)).2],ae HB⟩)))
 ·(
 have hx:rxE ls=tyE ls:=by unfold rxE;rw[if_pos hz]
 have HX:Hid (rxE ls≠0):=by show _≠_;rw[hx];exact hz
 obtain⟨z,hzz⟩:∃ z,z=tyE ls:=⟨_,rfl⟩
 rw[← hzz] at hz hx ⊢
 have HX2:=af hx
 have HZ3:=af hz
 have hzb:(z != 0)=true:=by simpa using hz
 clear hzz hx hz
 go_wp2
 exact bodyPost_ret (v:=.tuple #[.string ⟨#[]⟩,.int .i64 z]) (by simp[results,results24,go_sem]) rfl ⟨by rw[(ae OTH z (ae HX2) (ae HZ3)).1,(ae OTH z (ae HX2) (ae HZ3)).2],ae HB1⟩))
end Go.Proofs.YtjlfllhedceigaaGreatDoor
