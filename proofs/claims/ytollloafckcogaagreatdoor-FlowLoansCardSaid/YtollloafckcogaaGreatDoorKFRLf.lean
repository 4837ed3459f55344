/- The reference's loan: the payment, and i -/
import Derived.Test.YtollloafckcogaaGreatDoorKFRLc
namespace Go.Proofs.YtollloafckcogaaGreatDoor
open Go.RowKit
set_option maxHeartbeats 16000000
set_option maxRecDepth 100000
set_option linter.unusedVariables false
theorem run_sliceR (g n cap:Nat) (hn:0<n) (hc:n+1≤cap):∀ W,(Instr.slice 46 (.slice (some ⟨g,0,none⟩) (n+1) cap) (some (.int .i64 1)) none none).run Tryz.prog W=.ok (.slice (some ⟨g,1,none⟩) n (cap-1)) W:=fun W=>by
 have hu:=Tryz.underlying46
 have h2:(1:Int)≤((n+1:Nat):Int):=by omega
 have h3:((n+1:Nat):Int)≤(cap:Int):=by omega
 have h4:(1:Int)<(cap:Int):=by omega
 go_simp
 rw [if_pos (by omega),if_neg (by omega)]
theorem OwnR.tail {w:World} {base g cap n:Nat} {D:Nat→Rat} {us:List Value} (h:OwnR w base (.slice (some ⟨g,0,none⟩) (n+1) cap) ((List.range (n+1)).map D) us):RatsAt w (.slice (some ⟨g,1,none⟩) n (cap-1)) ((List.range n).map fun i=>D (i+1)):=by
 obtain ⟨a,cap',e,h1,h2⟩:=h.rats
 simp only [List.length_map,List.length_range,Value.slice.injEq] at e h1
 obtain ⟨rfl,-,rfl⟩:=e
 refine ⟨some ⟨g,1,none⟩,cap-1,by simp,by simp;omega,fun i f hi=>?_⟩
 have hin:i<n:=by
  have:=(List.getElem?_eq_some_iff.1 hi).1
  simpa using this
 rw [List.getElem?_map,List.getElem?_range hin] at hi
 obtain ⟨b,off,u,ea,hc,hp⟩:=h2 (i+1) f (by rw [List.getElem?_map,List.getElem?_range (by omega)];exact hi)
 simp only [Option.some.injEq,Addr.mk.injEq] at ea
 obtain ⟨rfl,rfl,-⟩:=ea
 exact ⟨g,1,u,rfl,by rw [show 1+i=0+(i+1) from by omega];exact hc,hp⟩
theorem refLoan_ok (db:Nat) (vr:Value) (D:Rat) (rs:List Rat) (R:Nat→Rat) (w:World) (hd:RatIs w db D) (hr:RatsAt w vr rs) (hR:∀ i,i<rs.length→rs[i]? = some (R i)) (hn:rs.length≤60) (h0:0<rs.length) (ld:Len D 1) (lr:∀ i,i<rs.length→Len (R i) 1) (hg:∀ i,i<rs.length→0<1+R i) :
  Calls Tryz.prog 25 #[.pointer (some ⟨db,0,none⟩),vr] w fun e w'=>∃ pb v' us,e=.returned (.tuple #[.pointer (some ⟨pb,0,none⟩),v',.int .i64 0])∧RatIs w' pb (D/unitW rs)∧OwnR3 w' w.heap.size v' rs.length (intR (D/unitW rs) rs) (backR (D/unitW rs) rs) (fun i=>leftR (D/unitW rs) rs (i+1)) us∧But [] w w':=by
 have hR0:∀ i,i<rs.length→rs[i]?.getD 0=R i:=fun i hi=>by rw [hR i hi];rfl
 have hgm:∀ r ∈ rs,0<1+r:=fun r hm=>by
  obtain ⟨t,ht,rfl⟩:=List.mem_iff_getElem.1 hm
  have:=hR t ht
  rw [List.getElem?_eq_getElem ht] at this
  rw [Option.some.inj this]
  exact hg t ht
 have hlm:∀ r ∈ rs,Len r 1:=fun r hm=>by
  obtain ⟨t,ht,rfl⟩:=List.mem_iff_getElem.1 hm
  have:=hR t ht
  rw [List.getElem?_eq_getElem ht] at this
  rw [Option.some.inj this]
  exact lr t ht
 have hu0:=unitW_pos rs hgm h0
 have hu:unitW rs≠0:=fun e=>by rw [e] at hu0;exact absurd hu0 (by decide)
 have lW:=unitW_len rs hgm hlm hn
 obtain ⟨c,hc⟩:∃ c,c=D/unitW rs:=⟨_,rfl⟩
 have hcu:c*unitW rs=D:=by rw [hc];exact Rat.div_mul_cancel hu
 have lc:Len c 62:=by rw [hc];exact len_div ld lW (Int.ne_of_gt (numPosL.2 hu0)) 62 (by omega)
 have lL:∀ i,Len (leftR c rs i) 123:=fun i=>len_mul lc (unitW_len (rs.drop i) (fun r hr=>hgm r (List.mem_of_mem_drop hr)) (fun r hr=>hlm r (List.mem_of_mem_drop hr)) (by rw [List.length_drop];omega)) 123 (by omega)
 have lI:∀ i,i<rs.length→Len (intR c rs i) 124:=fun i hi=>len_mul (by rw [hR0 i hi];exact lr i hi) (lL i) 124 (by omega)
 have lB:∀ i,i<rs.length→Len (backR c rs i) 187:=fun i hi=>len_sub lc (lI i hi) 187 (by omega)
 have hL0:leftR c rs 0=D:=by unfold leftR;rw [List.drop_zero];exact hcu
 have DC:=hide (fun W (hb:But [] w W)=>refDisc_ok vr rs R W (hr.but hb) hR (by omega) lr hg)
 have ldisc:∀ i,i<rs.length→LenU (discR R (i+1)) 490:=fun i hi=>(lenU_len (len_disc (r:=R) (i+1) (fun j hj=>hg j (by omega)) (fun j hj=>lr j (by omega)))).mono (by omega)
 have SM:Hid (∀ W v,RatsAt W v ((List.range rs.length).map fun i=>discR R (i+1))→Calls Tryz.prog 63 #[v] W fun e w'=>∃ zb,e=.returned (.pointer (some ⟨zb,0,none⟩))∧RatIs w' zb (unitW rs)∧But [] W w'):=fun W v h=>by
  have hl:((List.range rs.length).map fun i=>discR R (i+1)).length=rs.length:=by simp
  refine (refSum_any v ((List.range rs.length).map fun i=>discR R (i+1)) (fun i=>discR R (i+1)) W h (fun i hi=>?_) (by rw [hl];omega) (fun i hi=>?_) (fun k hk=>?_)).mono ?_
  ·have hi':i<rs.length:=by rw [← hl];exact hi
   rw [List.getElem?_map,List.getElem?_range hi'];rfl
  ·exact (ldisc i (by rw [← hl];exact hi)).mono (by omega)
  ·have hk':k≤rs.length:=by rw [← hl];exact hk
   have h2:k*(490+1)≤60*491:=Nat.mul_le_mul (by omega) (Nat.le_refl _)
   exact (lenU_sg (c:=490) k (fun i hi=>ldisc i (by omega))).mono (by omega)
  ·rintro e w' ⟨zb,he,hz,hb⟩
   rw [hl,unitW_total rs R hR0 hg] at hz
   rcases hz with hz | ⟨hz,-⟩
   ·exact ⟨zb,he,hz,hb⟩
   ·exact absurd hz hu
 have DV:=hide (fun W xb yb (h1:RatIs W xb D) (h2:RatIs W yb (unitW rs))=>refDivQ xb yb D (unitW rs) c W h1 h2 ((lenU_len ld).mono (by omega)) ((lenU_len lW).mono (by omega)) (Int.ne_of_gt (numPosL.2 hu0)) hcu)
 have hcell:∀ W,But [] w W→∀ i,i<rs.length→∃ b off g,(∃ a c,vr=.slice a rs.length c∧a=some ⟨b,off,none⟩)∧W.cell? ⟨b,off+i,none⟩=some (.pointer (some ⟨g,0,none⟩))∧RatIs W g (R i):=fun W hb i hi=>by
  obtain ⟨a,cap,e,-⟩:=hr.open
  have h0:=hr.but hb
  rw [e] at h0
  obtain ⟨-,b,off,g,f,h1,h2,h3,h4⟩:=h0.at i hi
  rw [hR i hi] at h3
  obtain rfl:=Option.some.inj h3
  exact ⟨b,off,g,⟨a,cap,e,h1⟩,h2,h4⟩
 have hMU:∀ i,i<rs.length→∀ W xb yb,RatIs W xb (leftR c rs i)→RatIs W yb (R i)→Calls Tryz.prog 41 #[.pointer (some ⟨xb,0,none⟩),.pointer (some ⟨yb,0,none⟩)] W fun e w'=>∃ zb,e=.returned (.pointer (some ⟨zb,0,none⟩))∧RatIs w' zb (intR c rs i)∧But [] W w':=fun i hi W xb yb h1 h2=>by
  have:=refMulQ xb yb _ _ W h1 h2 ((lenU_len (lL i)).mono (by omega)) ((lenU_len (lr i hi)).mono (by omega))
  rw [show leftR c rs i*R i=intR c rs i from by unfold intR;rw [hR0 i hi];exact Rat.mul_comm _ _] at this
  exact this
 have hSU:∀ i,i<rs.length→∀ W xb yb,RatIs W xb c→RatIs W yb (intR c rs i)→Calls Tryz.prog 46 #[.pointer (some ⟨xb,0,none⟩),.pointer (some ⟨yb,0,none⟩)] W fun e w'=>∃ zb,e=.returned (.pointer (some ⟨zb,0,none⟩))∧RatIs w' zb (backR c rs i)∧But [] W w':=fun i hi W xb yb h1 h2=>refSubQ xb yb _ _ W h1 h2 ((lenU_len lc).mono (by omega)) ((lenU_len (lI i hi)).mono (by omega))
 have hSV:∀ i,i<rs.length→∀ W xb yb,RatIs W xb (leftR c rs i)→RatIs W yb (backR c rs i)→Calls Tryz.prog 46 #[.pointer (some ⟨xb,0,none⟩),.pointer (some ⟨yb,0,none⟩)] W fun e w'=>∃ zb,e=.returned (.pointer (some ⟨zb,0,none⟩))∧RatIs w' zb (leftR c rs (i+1))∧But [] W w':=fun i hi W xb yb h1 h2=>by
  rw [← left_next c rs i hi hgm]
  exact refSubQ xb yb _ _ W h1 h2 ((lenU_len (lL i)).mono (by omega)) ((lenU_len (lB i hi)).mono (by omega))
 obtain ⟨a,cap,rfl,hcap⟩:=hr.open
 have HV:=hide hcell
 have HM:=hide hMU
 have HS1:=hide hSU
 have HS2:=hide hSV
 have HD:=hide hd
 obtain ⟨LL,hLL⟩:∃ LL:Nat→Rat,LL=fun i=>leftR c rs (i+1):=⟨_,rfl⟩
 have HLL:=hide hLL
 rw [← hc,← hLL]
 have HL0:=hide hL0
 clear hcell hMU hSU hSV hr hR hR0 hgm hlm hu0 hu lW hc hcu lc lL lI lB hL0 lr hg ldisc hd ld hLL
 obtain ⟨n,hnn⟩:∃ n,n=rs.length:=⟨_,rfl⟩
 rw [← hnn] at hn h0 hcap DC SM HV HM HS1 HS2
 rw [← hnn]
 clear hnn
 have n0:((n:Int)==0)=false:=by simp;omega
 go_enter Tryz.func25,Tryz.ntmps25
 go_wp2_with fail
 refine (unhide DC w (But.refl _ _)).mono ?_
 rintro e w1 ⟨vd,ud,rfl,od,hb1⟩
 obtain ⟨gd,capd,ed,hcd,-,-,-⟩:=od.block (by simp)
 have ed':vd=.slice (some ⟨gd,0,none⟩) (n+1) capd:=by rw [ed];simp
 have hcd':n+1≤capd:=by simpa using hcd
 subst ed'
 have hsl:=run_sliceR gd n capd h0 hcd'
 have S1:=hide (unhide SM w1 _ od.tail)
 have B1:=hide hb1
 clear od ed hcd hb1 DC SM
 go_wp2_with fail
 refine (unhide S1).mono ?_
 rintro e w2 ⟨sb,rfl,hs,hb2⟩
 have D1:=hide (unhide DV w2 db sb (((unhide HD).but (unhide B1)).but hb2) hs)
 have B2:=hide ((unhide B1).trans' hb2)
 clear hs hb2 S1 B1 DV hsl hcd'
 go_wp2_with fail
 refine (unhide D1).mono ?_
 rintro e w3 ⟨pb,rfl,hp,hb3⟩
 have I0:Hid (But [] w w3∧RatIs w3 pb c∧RatIs w3 db (leftR c rs 0)∧OwnR3 w3 w.heap.size (.slice none 0 0) 0 (intR c rs) (backR c rs) LL []):=⟨(unhide B2).trans' hb3,hp,by rw [unhide HL0];exact (unhide HD).but ((unhide B2).trans' hb3),OwnR3.empty _ _ _ _ _⟩
 clear hp hb3 D1 B2
 go_wp2
 go_loopw [10,11,35] (fun o p i wr=>∃ (k lb:Nat) (us:List Value),k≤n∧i=.int .i64 (k:Int)∧p=.pointer (some ⟨lb,0,none⟩)∧Hid (But [] w wr∧RatIs wr pb c∧RatIs wr lb (leftR c rs k)∧OwnR3 wr w.heap.size o k (intR c rs) (backR c rs) LL us)) (fun _ _ i _=>n-(intOf i).toNat)
 case atStart=>exact ⟨0,db,[],Nat.zero_le _,rfl,rfl,unhide I0⟩
 case round =>
  obtain ⟨k,lb,us,hk,rfl,rfl,HI⟩:=hrel
  rename World=>wr
  clear I0
  by_cases hlt:k<n
  ·obtain ⟨b,off,g,⟨a',c',e',ea⟩,c0,hT⟩:=unhide HV wr (unhide HI).1 k hlt
   simp only [Value.slice.injEq] at e'
   obtain ⟨rfl,-,-⟩:=e'
   subst ea
   have M1:=hide (unhide HM k hlt wr lb g (unhide HI).2.2.1 hT)
   clear hT
   go_wp2_with fail
   refine (unhide M1).mono ?_
   rintro e w4 ⟨gi,rfl,hi,hb4⟩
   have M2:=hide (unhide HS1 k hlt w4 pb gi ((unhide HI).2.1.but hb4) hi)
   have S4:=hide (And.intro hb4 hi)
   clear hi hb4 M1
   go_wp2_with fail
   refine (unhide M2).mono ?_
   rintro e w5 ⟨gb,rfl,hb,hb5⟩
   have M3:=hide (unhide HS2 k hlt w5 lb gb (((unhide HI).2.2.1.but (unhide S4).1).but hb5) hb)
   have S5:=hide (And.intro ((unhide S4).1.trans' hb5) (And.intro ((unhide S4).2.but hb5) hb))
   clear hb hb5 M2 S4
   go_wp2_with fail
   refine (unhide M3).mono ?_
   rintro e w6 ⟨gl,rfl,hl,hb6⟩
   obtain ⟨V0,hV0⟩:∃ V,V=w6.alloc (.cells #[.pointer (some ⟨gi,0,none⟩),.pointer (some ⟨gb,0,none⟩),.pointer (some ⟨gl,0,none⟩)] 37):=⟨_,rfl⟩
   have b60:But [] w6 V0:=by rw [hV0];exact (But.refl _ _).alloc _
   obtain ⟨V,hV⟩:∃ V,V=V0.alloc (.cells #[.slice (some ⟨w6.heap.size,0,none⟩) 3 3] 46):=⟨_,rfl⟩
   have b6V:But [] V0 V:=by rw [hV];exact (But.refl _ _).alloc _
   have hz:V0.heap.size=w6.heap.size+1:=by rw [hV0];simp
   have cc:V.cell? ⟨w6.heap.size+1,0,none⟩=some (.slice (some ⟨w6.heap.size,0,none⟩) 3 3):=by rw [hV,← hz];simp
   have bV:But [] wr V:=(((unhide S5).1.trans' hb6).trans' b60).trans' b6V
   have b66:=b60.trans' b6V
   have r3:Row3At V (.slice (some ⟨w6.heap.size,0,none⟩) 3 3) (intR c rs k) (backR c rs k) (LL k):=by
    refine ⟨w6.heap.size,gi,gb,gl,rfl,b6V.cell_some (by rw [hV0];simp) (by simp),b6V.cell_some (by rw [hV0];simp) (by simp),b6V.cell_some (by rw [hV0];simp) (by simp),(((unhide S5).2.1.but hb6).but b66),(((unhide S5).2.2.but hb6).but b66),?_⟩
    rw [unhide HLL]
    exact hl.but b66
   have oV:=(unhide HI).2.2.2.but bV
   have bwV:=(unhide HI).1.trans' bV
   obtain ⟨v',w',hr,ho,hB,stay⟩:=append_row3 V w _ k _ _ _ us w.heap.size oV _ _ cc r3 (by omega) bwV (Nat.le_refl _) bwV.size
   have NS:Hid (But [] w w'∧RatIs w' pb c∧RatIs w' gl (leftR c rs (k+1))∧OwnR3 w' w.heap.size v' (k+1) (intR c rs) (backR c rs) LL (us++[.slice (some ⟨w6.heap.size,0,none⟩) 3 3])):=⟨hB,stay _ _ ((unhide HI).2.1.but bV),stay _ _ (hl.but b66),ho⟩
   rw [hV,hV0] at hr
   have HR:=hide hr
   clear hr ho hB stay oV bwV bV r3 cc hz b66 b6V b60 hV hV0 hl hb6 M3 S5
   go_wp2_with (at_builtin;refine wpList_app rfl _ _ 61 61 rfl _ _ v' w' rfl rfl (unhide HR) ?_)
   exact ⟨⟨k+1,gl,_,by omega,by go_num,rfl,unhide NS⟩,by simp [intOf];omega⟩
  ·obtain rfl:k=n:=by omega
   obtain ⟨a',c',e'⟩:=(unhide HI).2.2.2.form
   subst e'
   go_wp2
   exact bodyPost_ret (v:=.tuple #[.pointer (some ⟨pb,0,none⟩),.slice a' k c',.int .i64 0]) (by simp [results,Tryz.results25,go_sem]) rfl ⟨pb,_,us,rfl,(unhide HI).2.1,(unhide HI).2.2.2,(unhide HI).1⟩
theorem refLoan_none (db:Nat) (a:Option Addr) (c:Nat) (w:World) (DC:Calls Tryz.prog 15 #[.slice a 0 c] w fun e w'=>∃ v',e=.returned (.tuple #[v',.int .i64 0])∧But [] w w') :
  Calls Tryz.prog 25 #[.pointer (some ⟨db,0,none⟩),.slice a 0 c] w fun e w'=>e=.returned (.tuple #[.pointer none,.slice none 0 0,.int .i64 1])∧But [] w w':=by
 have HD:=hide DC
 clear DC
 go_enter Tryz.func25,Tryz.ntmps25
 go_wp2_with fail
 refine (unhide HD).mono ?_
 rintro e w1 ⟨v',rfl,hb⟩
 have B1:=hide hb
 clear hb
 go_wp2
 exact bodyPost_ret (v:=.tuple #[.pointer none,.slice none 0 0,.int .i64 1]) (by simp [results,Tryz.results25,go_sem]) rfl ⟨rfl,unhide B1⟩
theorem refLoan_bad (db:Nat) (vr:Value) (z:Int) (w:World) (hz:(z != 0)=true) (DC:Calls Tryz.prog 15 #[vr] w fun e w'=>e=.returned (.tuple #[.slice none 0 0,.int .i64 z])∧But [] w w') :
  Calls Tryz.prog 25 #[.pointer (some ⟨db,0,none⟩),vr] w fun e w'=>e=.returned (.tuple #[.pointer none,.slice none 0 0,.int .i64 z])∧But [] w w':=by
 have HD:=hide DC
 clear DC
 go_enter Tryz.func25,Tryz.ntmps25
 go_wp2_with fail
 refine (unhide HD).mono ?_
 rintro e w1 ⟨rfl,hb⟩
 have B1:=hide hb
 clear hb
 go_wp2
 exact bodyPost_ret (v:=.tuple #[.pointer none,.slice none 0 0,.int .i64 z]) (by simp [results,Tryz.results25,go_sem]) rfl ⟨rfl,unhide B1⟩
end Go.Proofs.YtollloafckcogaaGreatDoor
