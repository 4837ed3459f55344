/- The law FracSays from its first check on -/
import Derived.Test.YteipfplbcbaheaaGreatDoorILW
namespace Go.Proofs.YteipfplbcbaheaaGreatDoor
open Go.RowKit
set_option maxHeartbeats 32000000
set_option maxRecDepth 100000
theorem says_first (w W:World) (g9 g10:Nat) (fs gs:Bool) (fx fy gx gy:Int) (xb yb:Nat) (f g:Rat) (n p:Int) (g13:Nat) (qs:Bool) (qx qy:Int) (qp:Option Addr) (ev:Value) (eD:Int) (ST:Hid (SaysSt w W g9 g10 fs gs fx fy gx gy xb yb f g)) (HF:Hid (SaysF fs fx fy f)) (HGF:Hid (SaysF gs gx gy g)) (HT:Hid (Lib.TabIs Tryz.prog w "internal/strconv.uint64pow10" .u64 Lib.pow10Tab)) (HG:Hid (w.cell? ⟨1,0,none⟩=some (.iface 235 (.agg #[.pointer (some ⟨8,32,none⟩)])))) (hn:-9223372036854775808≤n∧n<9223372036854775808) (hp:-9223372036854775808≤p∧p<9223372036854775808) (K3:Hid (P4 W g13 qs qx qy qp∧OneOk W (.agg #[.bool qs,.int .u64 qx,.int .u64 qy,.pointer qp]) ev eD (f/g))) (HE:Hid (eD=if g.num=0 then 11 else 0)) (q0 q1 q4 q5 q6 q7 q8 q16 q17 q18 q19 q20 q21 q22 q23 q24 q25 q26 q27 q28 q29 q30 q31 q32 q33 q34 q35 q36 q37 q38 q39 q40 q41 q42 q43 q44 q45 q46 q47 q48 q49 q50 q51 q52 q53 q54 q55 q56 q57 q58 q59 q60 q61 q62 q63 q64 q65 q66 q67 q68 q69 q70 q71 q72 q73 q74 q75 q76 q77 q78 q79 q80 q81 q82 q83 q84 q85 q86 q87 q88 q89 q90 q91 q92 q93 q94 q95 q96 q97 q98 q99 q100 q101 q102 q103 q104 q105 q106 q107 q108 q109 q110 q111 q112 q113 q114 q115 q116 q117 q118 q119 q120 q121 q122 q123 q124 q125 q126 q127 q128 q129 q130 q131 q132 q133 q134 q135 q136 q137 q138 q139 q140 q141 q142 q143 q144 q145 q146 q147 q148 q149 q150 q151 q152 q153 q154 q155 q156 q157 q158 q159 q160 q161 q162 q163 q164 q165 q166 q167 q168 q169 q170 q171 q172 q173 q174 q175 q176 q177 q178 q179 q180 q181 q182 q183 q184 q185 q186 q187 q188 q189 q190 q191 q192 q193 q194 q195 q196 q197 q198 q199 q200 q201 q202 q203 q204 q205 q206 q207 q208 q209 q210 q211 q212 q213 q214 q215 q216 q217 q218 q219 q220 q221 q222 q223 q224 q225 q226 q227 q228 q229 q230 q231 q232 q233 q234 q235 q236 q237 q238 q239 q240 q241 q242 q243 q244 q245 q246 q247 q248 q249 q250 q251 q252 q253 q254:Value) :
  Code.wp Tryz.prog (tailOf 6 saysBody) (bodyPost Tryz.prog Tryz.f3 fun e w'=>e=.returned (.bool true)∧But [] w w') { tmps:=(q0::q1::.int .i64 n::.int .i64 p::q4::q5::q6::q7::q8::.pointer (some ⟨g9,0,none⟩)::.pointer (some ⟨g10,0,none⟩)::.pointer (some ⟨xb,0,none⟩)::.pointer (some ⟨yb,0,none⟩)::.pointer (some ⟨g13,0,none⟩)::ev::.int .i64 eD::q16::q17::q18::q19::q20::q21::q22::q23::q24::q25::q26::q27::q28::q29::q30::q31::q32::q33::q34::q35::q36::q37::q38::q39::q40::q41::q42::q43::q44::q45::q46::q47::q48::q49::q50::q51::q52::q53::q54::q55::q56::q57::q58::q59::q60::q61::q62::q63::q64::q65::q66::q67::q68::q69::q70::q71::q72::q73::q74::q75::q76::q77::q78::q79::q80::q81::q82::q83::q84::q85::q86::q87::q88::q89::q90::q91::q92::q93::q94::q95::q96::q97::q98::q99::q100::q101::q102::q103::q104::q105::q106::q107::q108::q109::q110::q111::q112::q113::q114::q115::q116::q117::q118::q119::q120::q121::q122::q123::q124::q125::q126::q127::q128::q129::q130::q131::q132::q133::q134::q135::q136::q137::q138::q139::q140::q141::q142::q143::q144::q145::q146::q147::q148::q149::q150::q151::q152::q153::q154::q155::q156::q157::q158::q159::q160::q161::q162::q163::q164::q165::q166::q167::q168::q169::q170::q171::q172::q173::q174::q175::q176::q177::q178::q179::q180::q181::q182::q183::q184::q185::q186::q187::q188::q189::q190::q191::q192::q193::q194::q195::q196::q197::q198::q199::q200::q201::q202::q203::q204::q205::q206::q207::q208::q209::q210::q211::q212::q213::q214::q215::q216::q217::q218::q219::q220::q221::q222::q223::q224::q225::q226::q227::q228::q229::q230::q231::q232::q233::q234::q235::q236::q237::q238::q239::q240::q241::q242::q243::q244::q245::q246::q247::q248::q249::q250::q251::q252::q253::q254::[]).toArray,defers:=[] } W:=by
 conv=>arg 2;whnf
 obtain ⟨FF,lf,hpf,hqf,Lf,-⟩:=unhide HF
 obtain ⟨GG,lg,hpg,hqg,Lg,-⟩:=unhide HGF
 have htab:=unhide HT
 have hgl:=unhide HG
 have hx:=(unhide ST).2.2.2.1
 have hy:=(unhide ST).2.2.2.2
 have tb:∀ W',But [] W W'→Lib.TabIs Tryz.prog W' "internal/strconv.uint64pow10" .u64 Lib.pow10Tab:=fun W' hb=>TabIs.but htab ((unhide ST).1.trans' hb)
 have la:=len_add lf lg 3 (by omega)
 have ls:=len_sub lf lg 3 (by omega)
 have lm:=len_mul lf lg 2 (by omega)
 have lq:=says_len f g lf lg
 have REGC:=hide (fun (Q:Exit→Act→World→Prop) (base:Act) (hs:86<base.tmps.size) (e9:base.eval (.tmp 9)=.pointer (some ⟨g9,0,none⟩)) (e10:base.eval (.tmp 10)=.pointer (some ⟨g10,0,none⟩)) (e11:base.eval (.tmp 11)=.pointer (some ⟨xb,0,none⟩)) (e12:base.eval (.tmp 12)=.pointer (some ⟨yb,0,none⟩)) (e13:base.eval (.tmp 13)=.pointer (some ⟨g13,0,none⟩)) (e14:base.eval (.tmp 14)=ev) (e15:base.eval (.tmp 15)=.int .i64 eD) =>
  says_regionC 7 Q base W fs fx fy gs gx gy xb yb (fracTxt (decide (f.num<0)) f.num.natAbs f.den) (fracTxt (decide ((f+g).num<0)) (f+g).num.natAbs (f+g).den) (fracTxt (decide ((f-g).num<0)) (f-g).num.natAbs (f-g).den) (fracTxt (decide ((f*g).num<0)) (f*g).num.natAbs (f*g).den) f g (.agg #[.bool qs,.int .u64 qx,.int .u64 qy,.pointer qp]) ev eD hs g9 g10 g13 qs qx qy qp rfl (unhide ST).2.1 (unhide ST).2.2.1 (unhide K3).1 e9 e10 e11 e12 e13 e14 e15
   (fun W hb=>fracText_len _ f W (FF W) (lf.mono (by omega)) (tb W hb) _ rfl)
   (fun W hb=>refText_any xb f W (hx.but hb) (Lf.mono (by omega)) _ (txt_same f))
   (fun W hb=>fracAdd_any _ _ f g W (FF W) (GG W) (lf.mono (by omega)) (lg.mono (by omega)))
   (fun W v hb h=>fracText_len v (f+g) W h (la.mono (by omega)) (tb W hb) _ rfl)
   (fun W hb=>refAdd_any xb yb f g W (hx.but hb) (hy.but hb) (Lf.mono (by omega)) (Lg.mono (by omega)))
   (fun W zb h=>refText_any zb (f+g) W h ((lenU_len la).mono (by omega)) _ (txt_same _))
   (fun W hb=>fracSub_any _ _ f g W (FF W) (GG W) (lf.mono (by omega)) (lg.mono (by omega)))
   (fun W v hb h=>fracText_len v (f-g) W h (ls.mono (by omega)) (tb W hb) _ rfl)
   (fun W hb=>refSub_any xb yb f g W (hx.but hb) (hy.but hb) (Lf.mono (by omega)) (Lg.mono (by omega)))
   (fun W zb h=>refText_any zb (f-g) W h ((lenU_len ls).mono (by omega)) _ (txt_same _))
   (fun W hb=>fracMul_any _ _ f g W (FF W) (GG W) (lf.mono (by omega)) (lg.mono (by omega)))
   (fun W v hb h=>fracText_len v (f*g) W h (lm.mono (by omega)) (tb W hb) _ rfl)
   (fun W hb=>refMul_any xb yb f g W (hx.but hb) (hy.but hb) (Lf.mono (by omega)) (Lg.mono (by omega)))
   (fun W zb h=>refText_any zb (f*g) W h ((lenU_len lm).mono (by omega)) _ (txt_same _))
   (fun W hb=>div_both xb yb f g W (hx.but hb) (hy.but hb) Lf Lg)
   (fun W v hb hd=>by
    obtain ⟨zb,rfl,hd⟩:=hd
    exact one_any _ ev eD (f/g) zb W ((unhide K3).2.but hb) (fun _=>lq.mono (by omega)) (fun e=>hd (fun h0=>by rw [unhide HE,if_pos h0] at e;omega)) (tb W hb) (((unhide ST).1.trans' hb).cell_some hgl (by simp))))
 clear FF lf hpf hqf Lf GG lg hpg hqg Lg htab hgl hx hy tb la ls lm lq K3
 go_wp2_with fail
 refine unhide REGC _ _ (by simp) (by simp [Act.eval]) (by simp [Act.eval]) (by simp [Act.eval]) (by simp [Act.eval]) (by simp [Act.eval]) (by simp [Act.eval]) (by simp [Act.eval]) ?_
 intro w5 v8 v12 v19 v23 v30 v34 v43 hb5
 simp only [putted,List.foldl_cons,List.foldl_nil,Act.put,List.setIfInBounds_toArray,List.set_cons_zero,List.set_cons_succ]
 replace ST:=hide ((unhide ST).step hb5)
 clear hb5 REGC
 -- the power
 have POW:=hide (fun W=>pow_any fs fx fy n f (unhide HF).1 (unhide HF).2.1 (unhide HF).2.2.1 (unhide HF).2.2.2.1 hn W)
 obtain ⟨eP,heP⟩:∃ eP,eP=powE f n:=⟨_,rfl⟩
 obtain ⟨xP,hxP⟩:∃ xP,xP=powX f n:=⟨_,rfl⟩
 rw [← heP,← hxP] at POW
 have HEP:=hide (And.intro heP hxP)
 have IN:=hide (fun W=>refInt_any 0 W (by omega) (by omega))
 obtain ⟨c0,c1,c2,c3⟩:=(unhide ST).2.1
 clear heP hxP
 go_wp2_with fail
 refine (unhide POW _).mono ?_
 rintro e w6 ⟨pv,pe,rfl,hok,hb6⟩
 obtain ⟨ps,px,py,pp,rfl⟩:=hok.agg
 obtain ⟨V6,hV6⟩:∃ V6,V6=w6.alloc (.cells #[.bool ps,.int .u64 px,.int .u64 py,.pointer pp] 27):=⟨_,rfl⟩
 obtain ⟨g16,hg16⟩:∃ g16,g16=w6.heap.size:=⟨_,rfl⟩
 have c16:P4 V6 g16 ps px py pp:=by rw [hV6,hg16];exact ⟨by simp,by simp,by simp,by simp⟩
 have bV6:But [] w6 V6:=by rw [hV6];exact (But.refl _ _).alloc _
 replace ST:=hide ((unhide ST).step (hb6.trans' bV6))
 have K6:=hide (And.intro c16 (hok.but bV6))
 have HV6:=hide hV6
 clear c16 bV6 hok hb6 hV6 c0 c1 c2 c3 POW
 go_wp2_with fail
 rw [← unhide HV6]
 try rw [← hg16]
 clear hg16 HV6
 refine (unhide IN _).mono ?_
 rintro e w7 ⟨z0,rfl,hb7,-⟩
 replace ST:=hide ((unhide ST).step hb7)
 replace K6:=hide (And.intro ((unhide K6).1.but hb7 (by simp)) ((unhide K6).2.but hb7))
 clear hb7
 go_upto_block 0 with fail
 go_cut [15,17] (fun s15 s17 wx=>∃ zb:Nat,s15=.int .i64 eP∧s17=.pointer (some ⟨zb,0,none⟩)∧Hid (But [] w7 wx∧(eP=0→RatIs wx zb xP)))
 case first =>
  obtain ⟨sf,hsf⟩:∃ sf,sf=f.num.sign:=⟨_,rfl⟩
  have SGF:=hide (ratSign_any xb f.num (f.den:Int) w7 (unhide ST).2.2.2.1 sf hsf (by have:=(unhide HF).2.2.2.2.1.1;omega))
  have HSF:Hid ((f.num=0∧(sf==0)=true)∨(f.num≠0∧(sf==0)=false)):=by
   by_cases h0:f.num=0
   ·exact .inl ⟨h0,by rw [hsf,h0];rfl⟩
   ·exact .inr ⟨h0,beq_eq_false_iff_ne.2 (by rw [hsf];exact fun h=>h0 (Int.sign_eq_zero_iff_zero.1 h))⟩
  clear hsf
  by_cases h1:n < -200
  ·have e2:eP=4:=by rw [(unhide HEP).1,powE,if_pos (.inl h1)]
   subst e2
   go_wp2_with fail
   go_meet
   exact ⟨z0,rfl,rfl,But.refl _ _,fun e=>by omega⟩
  ·by_cases h2:200<n
   ·have e2:eP=4:=by rw [(unhide HEP).1,powE,if_pos (.inr h2)]
    subst e2
    go_wp2_with fail
    go_meet
    exact ⟨z0,rfl,rfl,But.refl _ _,fun e=>by omega⟩
   ·have h12:¬ (n < -200∨200<n):=fun h=>h.elim h1 h2
    by_cases h3:n<0
    ·have H12:=hide (And.intro h12 h3)
     clear h12
     go_wp2_with fail
     refine (unhide SGF).mono ?_
     rintro e w8 ⟨rfl,hw⟩
     dsimp only
     obtain rfl:=hw.symm
     clear hw SGF
     rcases unhide HSF with ⟨h0,e1⟩ | ⟨h0,e1⟩
     ·have e2:eP=11:=by rw [(unhide HEP).1,powE,if_neg (unhide H12).1,if_pos ⟨(unhide H12).2,h0⟩]
      subst e2
      clear HSF h0
      go_wp2_with fail
      go_meet
      exact ⟨z0,rfl,rfl,But.refl _ _,fun e=>by omega⟩
     ·have e2:eP=0:=by rw [(unhide HEP).1,powE,if_neg (unhide H12).1,if_neg (fun h=>h0 h.2)]
      have e3:xP=rpow f⁻¹ n.natAbs:=by rw [(unhide HEP).2,powX,if_pos (unhide H12).2]
      subst e2
      have I1:=hide (refInt_any 1 w7 (by omega) (by omega))
      have PW:Hid (∀ W,RatIs W xb f→Calls Tryz.prog 24 #[.pointer (some ⟨xb,0,none⟩),.int .i64 (-n)] W fun e w'=>∃ zb,e=.returned (.pointer (some ⟨zb,0,none⟩))∧But [] W w'∧RatIs w' zb (rpow f n.natAbs)):=fun W h=>by
       have:=refPower_any xb f n.natAbs W h (unhide HF).2.2.2.2.1 (by omega)
       rw [show ((n.natAbs:Nat):Int)=-n by omega] at this
       exact this
      have DV:Hid (∀ W a b,RatIs W a 1→RatIs W b (rpow f n.natAbs)→Calls Tryz.prog 21 #[.pointer (some ⟨a,0,none⟩),.pointer (some ⟨b,0,none⟩)] W fun e w'=>∃ zb,e=.returned (.pointer (some ⟨zb,0,none⟩))∧But [] W w'∧RatIs w' zb xP):=fun W a b ha hb=>by
       have hl:=(lenU_rpow (unhide HF).2.2.2.2.1 n.natAbs).mono (n:=401) (by omega)
       exact (refDivU_any a b 1 (rpow f n.natAbs) xP W ha hb ⟨by show (wd 4294967296 1).length≤_;exact Nat.le_trans (len_le_two 1 (by omega)) (by omega),by show (wd 4294967296 1).length≤_;exact Nat.le_trans (len_le_two 1 (by omega)) (by omega)⟩ (hl.mono (by omega)) (by rw [(rpow_parts f n.natAbs).1];exact Int.pow_ne_zero h0) (by rw [e3];exact rpow_back f h0 _)).mono (fun e w' h=>by
        obtain ⟨zb,k1,k2,k3,-⟩:=h
        exact ⟨zb,k1,k2,k3⟩)
      have HX:=hide (unhide ST).2.2.2.1
      clear HSF h0 e3
      go_wp2_with fail
      refine (unhide I1).mono ?_
      rintro e w8 ⟨za,rfl,hb8,ha⟩
      dsimp only
      have B8:=hide hb8
      have HA:=hide ha
      replace HX:=hide ((unhide HX).but hb8)
      clear hb8 ha I1
      go_wp2_with fail
      refine (unhide PW _ (unhide HX)).mono ?_
      rintro e w9 ⟨zc,rfl,hb9,hc⟩
      dsimp only
      replace B8:=hide ((unhide B8).trans' hb9)
      replace HA:=hide (RatAt.but (unhide HA) hb9)
      have HC:=hide hc
      clear hb9 hc PW
      go_wp2_with fail
      refine (unhide DV _ za zc (unhide HA) (unhide HC)).mono ?_
      rintro e w10 ⟨zd,rfl,hb10,hd⟩
      dsimp only
      have FIN:=hide (And.intro ((unhide B8).trans' hb10) hd)
      clear hb10 hd DV
      go_wp2_with fail
      go_meet
      exact ⟨zd,rfl,rfl,(unhide FIN).1,fun _=>(unhide FIN).2⟩
    ·have e2:eP=0:=by rw [(unhide HEP).1,powE,if_neg h12,if_neg (fun h=>h3 h.1)]
     have e3:xP=rpow f n.natAbs:=by rw [(unhide HEP).2,powX,if_neg h3]
     subst e2
     have PW:Hid (Calls Tryz.prog 24 #[.pointer (some ⟨xb,0,none⟩),.int .i64 n] w7 fun e w'=>∃ zb,e=.returned (.pointer (some ⟨zb,0,none⟩))∧But [] w7 w'∧RatIs w' zb xP):=by
      have:=refPower_any xb f n.natAbs w7 (unhide ST).2.2.2.1 (unhide HF).2.2.2.2.1 (by omega)
      rw [show ((n.natAbs:Nat):Int)=n by omega,← e3] at this
      exact this
     clear e3 h12
     go_wp2_with fail
     refine (unhide PW).mono ?_
     rintro e w9 ⟨zc,rfl,hb9,hc⟩
     dsimp only
     have FIN:=hide (And.intro hb9 hc)
     clear hb9 hc PW
     go_wp2_with fail
     go_meet
     exact ⟨zc,rfl,rfl,(unhide FIN).1,fun _=>(unhide FIN).2⟩
 case rest =>
  obtain ⟨zb,rfl,rfl,HC⟩:=hcut
  replace ST:=hide ((unhide ST).step (unhide HC).1)
  replace K6:=hide (And.intro ((unhide K6).1.but (unhide HC).1 (by simp)) (And.intro ((unhide K6).2.but (unhide HC).1) (unhide HC).2))
  rename ∀ a w,Code.wp _ _ _ a w→_=>hK
  refine hK _ _ ?_
  exact says_mid w _ g9 g10 fs gs fx fy gx gy xb yb f g n p g16 ps px py pp pe eP xP zb ST HF HGF HT HG hp K6 HEP _ _ _ _ _ _ _ _ _ _ _ _ _ _ _ _ _ _ _ _ _ _ _ _ _ _ _ _ _ _ _ _ _ _ _ _ _ _ _ _ _ _ _ _ _ _ _ _ _ _ _ _ _ _ _ _ _ _ _ _ _ _ _ _ _ _ _ _ _ _ _ _ _ _ _ _ _ _ _ _ _ _ _ _ _ _ _ _ _ _ _ _ _ _ _ _ _ _ _ _ _ _ _ _ _ _ _ _ _ _ _ _ _ _ _ _ _ _ _ _ _ _ _ _ _ _ _ _ _ _ _ _ _ _ _ _ _ _ _ _ _ _ _ _ _ _ _ _ _ _ _ _ _ _ _ _ _ _ _ _ _ _ _ _ _ _ _ _ _ _ _ _ _ _ _ _ _ _ _ _ _ _ _ _ _ _ _ _ _ _ _ _ _ _ _ _ _ _ _ _ _ _ _ _ _ _ _ _ _ _ _ _ _ _ _ _ _ _ _ _ _ _ _ _ _ _ _ _ _ _ _ _ _ _ _ _ _ _ _ _ _ _ _ _ _
end Go.Proofs.YteipfplbcbaheaaGreatDoor

namespace Go.Proofs.YteipfplbcbaheaaGreatDoor
open Go.RowKit
set_option maxHeartbeats 32000000
set_option maxRecDepth 100000
theorem fracSays_any (a1 a2 b1 b2 n p:Int) (ha1:-9223372036854775808≤a1∧a1<9223372036854775808) (ha2:-9223372036854775808≤a2∧a2<9223372036854775808) (hb1:-9223372036854775808≤b1∧b1<9223372036854775808) (hb2:-9223372036854775808≤b2∧b2<9223372036854775808) (hn:-9223372036854775808≤n∧n<9223372036854775808) (hp:-9223372036854775808≤p∧p<9223372036854775808) (w:World) (htab:Lib.TabIs Tryz.prog w "internal/strconv.uint64pow10" .u64 Lib.pow10Tab) (hg:w.cell? ⟨1,0,none⟩=some (.iface 235 (.agg #[.pointer (some ⟨8,32,none⟩)]))) :
  Calls Tryz.prog 3 #[.agg #[.int .i64 a1,.int .i64 a2],.agg #[.int .i64 b1,.int .i64 b2],.int .i64 n,.int .i64 p] w fun e w'=>e=.returned (.bool true)∧But [] w w':=by
 obtain ⟨f,fs,fx,fy,lf,hcf,FF,CF⟩:=plainF_any a1 a2 ha1.1 ha1.2 ha2.1 ha2.2
 obtain ⟨g,gs,gx,gy,lg,hcg,GG,CG⟩:=plainF_any b1 b2 hb1.1 hb1.2 hb2.1 hb2.2
 have hpf:f.num.natAbs < 18446744073709551616:=by have:=lt_of_wd_length (B:=18446744073709551616) (by omega) _ 1 lf.1;omega
 have hqf:f.den < 18446744073709551616:=by have:=lt_of_wd_length (B:=18446744073709551616) (by omega) _ 1 lf.2;omega
 have hpg:g.num.natAbs < 18446744073709551616:=by have:=lt_of_wd_length (B:=18446744073709551616) (by omega) _ 1 lg.1;omega
 have hqg:g.den < 18446744073709551616:=by have:=lt_of_wd_length (B:=18446744073709551616) (by omega) _ 1 lg.2;omega
 have Lf:=lenU_two f hpf hqf
 have Lg:=lenU_two g hpg hqg
 have OF:=hide (fun W=>refOf_any a1 a2 f W ha1.1 ha1.2 ha2.1 ha2.2 hcf)
 have OG:=hide (fun W=>refOf_any b1 b2 g W hb1.1 hb1.2 hb2.1 hb2.2 hcg)
 have CA:=hide CF
 have CB:=hide CG
 have HT:=hide htab
 have HG:=hide hg
 have HF:Hid (SaysF fs fx fy f):=⟨FF,lf,hpf,hqf,Lf,Nat.le_trans (num_le_of f a1 (if a2=0 then 1 else a2) (by split <;> omega) hcf) (by omega)⟩
 have HGF:Hid (SaysF gs gx gy g):=⟨GG,lg,hpg,hqg,Lg,Nat.le_trans (num_le_of g b1 (if b2=0 then 1 else b2) (by split <;> omega) hcg) (by omega)⟩
 -- the quotient
 obtain ⟨eD,heD⟩:∃ eD:Int,eD=if g.num=0 then 11 else 0:=⟨_,rfl⟩
 have DIV:Hid (∀ W,Calls Tryz.prog 10 #[.agg #[.bool fs,.int .u64 fx,.int .u64 fy,.pointer none],.agg #[.bool gs,.int .u64 gx,.int .u64 gy,.pointer none]] W fun e w'=>∃ v ev,e=.returned (.tuple #[v,ev])∧OneOk w' v ev eD (f/g)∧But [] W w'):=fun W=>by
  by_cases h0:g.num=0
  ·rw [heD,if_pos h0]
   exact (fracDiv_zero _ _ f g W (FF W) (GG W) h0).mono (fun e w' h=>⟨_,_,h.1,.inl ⟨by omega,by omega,rfl,rfl⟩,h.2⟩)
  ·rw [heD,if_neg h0]
   exact (fracDiv_any _ _ f g W (FF W) (GG W) (lf.mono (by omega)) (lg.mono (by omega)) h0).mono (fun e w' h=>by
    obtain ⟨v,h1,h2,h3⟩:=h
    exact ⟨v,_,h1,.inr ⟨rfl,rfl,h2⟩,h3⟩)
 obtain ⟨W,hW⟩:∃ W,W=(w.alloc (.cells #[.int .i64 a1,.int .i64 a2] 23)).alloc (.cells #[.int .i64 b1,.int .i64 b2] 23):=⟨_,rfl⟩
 obtain ⟨tA,tO,-,-,hB⟩:=two_news w W _ _ _ _ hW
 have q0:=tA 0
 have q1:=tA 1
 have r0:=tO 0
 have r1:=tO 1
 simp only [List.getElem?_toArray,List.getElem?_cons_zero,List.getElem?_cons_succ] at q0 q1 r0 r1
 obtain ⟨ga,hga⟩:∃ ga,ga=w.heap.size:=⟨_,rfl⟩
 obtain ⟨gb,hgb⟩:∃ gb,gb=w.heap.size+1:=⟨_,rfl⟩
 rw [← hga] at q0 q1
 rw [← hgb] at r0 r1
 have REGA:=hide (fun (Q:Exit→Act→World→Prop) (base:Act) (hs:25<base.tmps.size) (e4:base.eval (.tmp 4)=.pointer (some ⟨ga,0,none⟩)) (e5:base.eval (.tmp 5)=.pointer (some ⟨gb,0,none⟩))=>says_regionA 1 base W Q ga gb a1 a2 b1 b2 fs gs fx fy gx gy hs e4 e5 q0 q1 r0 r1 (unhide CA) (unhide CB))
 have CQ:=hide (And.intro q0 (And.intro q1 (And.intro r0 r1)))
 have HW:=hide hW
 have HB:=hide hB
 clear hW hB tA tO q0 q1 r0 r1 CF CG hcf hcg htab hg FF GG lf lg hpf hqf hpg hqg Lf Lg CA CB ha1 ha2 hb1 hb2
 go_enter Tryz.func3,Tryz.ntmps3
 go_wp2_with fail
 rw [← unhide HW]
 try rw [← hgb]
 try rw [← hga]
 clear hga hgb HW
 refine unhide REGA _ _ (by simp) (by simp [Act.eval]) (by simp [Act.eval]) ?_
 intro w1 g9 g10 hb1 h9 h10 p9 p10
 simp only [putted,List.foldl_cons,List.foldl_nil,Act.put,List.setIfInBounds_toArray,List.set_cons_zero,List.set_cons_succ]
 have REGB:=hide (fun (Q:Exit→Act→World→Prop) (base:Act) (hs:29<base.tmps.size) (e4:base.eval (.tmp 4)=.pointer (some ⟨ga,0,none⟩)) (e5:base.eval (.tmp 5)=.pointer (some ⟨gb,0,none⟩))=>says_regionB 2 Q base w1 a1 a2 b1 b2 f g hs ga gb e4 e5 (hb1.cell_some (unhide CQ).1 (by simp)) (hb1.cell_some (unhide CQ).2.1 (by simp)) (hb1.cell_some (unhide CQ).2.2.1 (by simp)) (hb1.cell_some (unhide CQ).2.2.2 (by simp)) (unhide OF) (unhide OG))
 have K1:=hide (And.intro ((unhide HB).trans' hb1) (And.intro p9 p10))
 clear hb1 h9 h10 p9 p10 REGA CQ OF OG HB
 go_wp2_with fail
 refine unhide REGB _ _ (by simp) (by simp [Act.eval]) (by simp [Act.eval]) ?_
 rintro w2 v27 v29 v11 v12 hb2 ⟨xb,rfl,hx⟩ ⟨yb,rfl,hy⟩
 simp only [putted,List.foldl_cons,List.foldl_nil,Act.put,List.setIfInBounds_toArray,List.set_cons_zero,List.set_cons_succ]
 have ST:Hid (SaysSt w w2 g9 g10 fs gs fx fy gx gy xb yb f g):=⟨(unhide K1).1.trans' hb2,(unhide K1).2.1.but hb2 (by simp),(unhide K1).2.2.but hb2 (by simp),hx,hy⟩
 clear hb2 hx hy REGB K1
 obtain ⟨c0,c1,c2,c3⟩:=(unhide ST).2.1
 obtain ⟨d0,d1,d2,d3⟩:=(unhide ST).2.2.1
 go_wp2_with fail
 refine (unhide DIV _).mono ?_
 rintro e w3 ⟨qv,ev,rfl,hok,hb3⟩
 obtain ⟨qs,qx,qy,qp,rfl⟩:=hok.agg
 obtain ⟨V3,hV3⟩:∃ V3,V3=w3.alloc (.cells #[.bool qs,.int .u64 qx,.int .u64 qy,.pointer qp] 27):=⟨_,rfl⟩
 obtain ⟨g13,hg13⟩:∃ g13,g13=w3.heap.size:=⟨_,rfl⟩
 have c13:P4 V3 g13 qs qx qy qp:=by rw [hV3,hg13];exact ⟨by simp,by simp,by simp,by simp⟩
 have bV3:But [] w3 V3:=by rw [hV3];exact (But.refl _ _).alloc _
 replace ST:=hide ((unhide ST).step (hb3.trans' bV3))
 have K3:=hide (And.intro c13 (hok.but bV3))
 have HV3:=hide hV3
 obtain ⟨sg,hsg⟩:∃ sg,sg=g.num.sign:=⟨_,rfl⟩
 have SG1:=hide (ratSign_any yb g.num (g.den:Int) V3 (unhide ST).2.2.2.2 sg hsg (by have:=(unhide HGF).2.2.2.2.1.1;omega))
 clear c13 bV3 hok hb3 hV3 c0 c1 c2 c3 d0 d1 d2 d3 DIV
 go_wp2_with fail
 rw [← unhide HV3]
 try rw [← hg13]
 clear hg13 HV3
 refine (unhide SG1).mono ?_
 rintro e w4 ⟨rfl,hw⟩
 obtain rfl:=hw.symm
 clear hw SG1
 have HE:=hide heD
 have HS:Hid ((g.num=0∧(sg==0)=true∧eD=11)∨(g.num≠0∧(sg==0)=false∧eD=0)):=by
  by_cases h0:g.num=0
  ·exact .inl ⟨h0,by rw [hsg,h0];rfl,by rw [heD,if_pos h0]⟩
  ·exact .inr ⟨h0,beq_eq_false_iff_ne.2 (by rw [hsg];exact fun h=>h0 (Int.sign_eq_zero_iff_zero.1 h)),by rw [heD,if_neg h0]⟩
 clear hsg heD
 go_upto_if 38 with fail
 go_cut [15] (fun s15 wx=>s15=.int .i64 eD∧wx=V3)
 case first =>
  rcases unhide HS with ⟨-,e1,e2⟩ | ⟨-,e1,e2⟩
  ·subst e2
   clear HE HS
   go_wp2_with fail
   go_meet
   exact ⟨rfl,rfl⟩
  ·subst e2
   clear HE HS
   go_wp2_with fail
   go_meet
   exact ⟨rfl,rfl⟩
 case rest =>
  obtain ⟨rfl,rfl⟩:=hcut
  rename ∀ a w,Code.wp _ _ _ a w→_=>hK
  refine hK _ _ ?_
  exact says_first w _ g9 g10 fs gs fx fy gx gy xb yb f g n p g13 qs qx qy qp ev eD ST HF HGF HT HG hn hp K3 HE _ _ _ _ _ _ _ _ _ _ _ _ _ _ _ _ _ _ _ _ _ _ _ _ _ _ _ _ _ _ _ _ _ _ _ _ _ _ _ _ _ _ _ _ _ _ _ _ _ _ _ _ _ _ _ _ _ _ _ _ _ _ _ _ _ _ _ _ _ _ _ _ _ _ _ _ _ _ _ _ _ _ _ _ _ _ _ _ _ _ _ _ _ _ _ _ _ _ _ _ _ _ _ _ _ _ _ _ _ _ _ _ _ _ _ _ _ _ _ _ _ _ _ _ _ _ _ _ _ _ _ _ _ _ _ _ _ _ _ _ _ _ _ _ _ _ _ _ _ _ _ _ _ _ _ _ _ _ _ _ _ _ _ _ _ _ _ _ _ _ _ _ _ _ _ _ _ _ _ _ _ _ _ _ _ _ _ _ _ _ _ _ _ _ _ _ _ _ _ _ _ _ _ _ _ _ _ _ _ _ _ _ _ _ _ _ _ _ _ _ _ _ _ _ _ _ _ _ _ _ _ _ _ _ _ _ _ _ _ _ _ _ _ _ _ _
end Go.Proofs.YteipfplbcbaheaaGreatDoor
