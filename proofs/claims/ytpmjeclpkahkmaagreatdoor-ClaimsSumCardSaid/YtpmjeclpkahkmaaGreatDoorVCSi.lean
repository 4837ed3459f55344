/- The law ClaimsSum, its beginning.  -/
import Derived.Test.YtpmjeclpkahkmaaGreatDoorVCSh
namespace Go.Proofs.YtpmjeclpkahkmaaGreatDoor
open Go.Proofs.Tryz
open Go.RowKit
set_option maxHeartbeats 64000000
set_option maxRecDepth 100000
set_option linter.unusedVariables false
theorem qdd (aa ab:Option Addr) (na ca nb cb:Nat) (fs gs:List Rat) (n:Int) (w:World) (hna:na≤40∨201<na∧na≤230) (hnb:nb≤40∨201<nb∧nb≤230) (zx zy:Int) (hz:¬ zx=0) (hzb:(zx==0)=false) (evS evC:Value) (gS gC:List Rat) (LIA:∀ W,But [] w W→Calls prog 16 #[.slice aa na ca] W fun e w'=>∃ v,e=.returned v∧za w' v fs∧But [] W w') (LIB:∀ W,But [] w W→Calls prog 16 #[.slice ab nb cb] W fun e w'=>∃ v,e=.returned v∧za w' v gs∧But [] W w') (LCA:∀ W v,za W v fs→Calls prog 17 #[v] W fun e w'=>e=.returned (.int .i64 zx)∧But [] W w') (LCB:∀ W v,za W v gs→Calls prog 17 #[v] W fun e w'=>e=.returned (.int .i64 zy)∧But [] W w') (PLA:∀ W,But [] w W→Calls prog 19 #[.slice aa na ca] W fun e w'=>∃ v,e=.returned v∧au w' v fs∧But [] W w') (PLB:∀ W,But [] w W→Calls prog 19 #[.slice ab nb cb] W fun e w'=>∃ v,e=.returned v∧au w' v gs∧But [] W w') (SU:∀ W va vb,But [] w W→au W va fs→au W vb gs→Calls prog 18 #[va,vb] W fun e w'=>∃ v,e=.returned (.tuple #[v,evS])∧jb w' zx gS v∧But [] W w') (LW1:∀ W v x,But [] w W→jb W zx gS v→(zx=0→za W x gS)→Calls prog 22 #[v,evS,x,.int .i64 zx] W fun e w'=>e=.returned (.bool true)∧But [] W w') (CO:∀ W va vb,But [] w W→au W va fs→au W vb gs→Calls prog 23 #[va,vb] W fun e w'=>∃ v,e=.returned (.tuple #[v,evC])∧jb w' zx gC v∧But [] W w') (LW2:∀ W v x,But [] w W→jb W zx gC v→(zx=0→za W x gC)→Calls prog 22 #[v,evC,x,.int .i64 zx] W fun e w'=>e=.returned (.bool true)∧But [] W w') (TT:∀ W vx,But [] w W→za W vx fs→∀ (q1 q3 q4 q5 q8 q10 q11 q12 q13 q14 q15 q16 q17 q18 q19 q20 q21 q22 q23 q24 q25 q26 q27 q28 q29 q30 q31 q32 q33 q34 q35 q36 q37 q38 q39 q40 q41 q42 q43 q44 q45 q46 q47 q48 q49 q50 q51 q52 q53 q54 q55 q56 q57 q58 q59 q60 q61 q62 q63 q64 q65 q66 q67 q68 q69 q70 q71 q72 q73 q74 q75 q76 q77 q78 q79 q80 q81 q82 q83 q84 q85 q86 q87 q88 q89 q90 q91 q92 q93 q94 q95 q96 q97 q98 q99 q100 q101 q102 q103 q104 q105 q106 q107 q108 q109 q110 q111 q112 q113 q114 q115 q116 q117 q118 q119 q120 q121 q122 q123 q124 q125 q126 q127 q128 q129 q130 q131 q132 q133 q134 q135 q136 q137 q138 q139 q140 q141 q142 q143 q144 q145 q146 q147 q148 q149 q150 q151 q152 q153:Value),Code.wp prog (zez 14 uy) (bodyPost prog Tryz.f4 fun e w'=>e=.returned (.bool true)∧But [] w w') { tmps:=(.slice aa na ca::q1::.int .i64 n::q3::q4::q5::.bool false::vx::q8::.int .i64 zx::q10::q11::q12::q13::q14::q15::q16::q17::q18::q19::q20::q21::q22::q23::q24::q25::q26::q27::q28::q29::q30::q31::q32::q33::q34::q35::q36::q37::q38::q39::q40::q41::q42::q43::q44::q45::q46::q47::q48::q49::q50::q51::q52::q53::q54::q55::q56::q57::q58::q59::q60::q61::q62::q63::q64::q65::q66::q67::q68::q69::q70::q71::q72::q73::q74::q75::q76::q77::q78::q79::q80::q81::q82::q83::q84::q85::q86::q87::q88::q89::q90::q91::q92::q93::q94::q95::q96::q97::q98::q99::q100::q101::q102::q103::q104::q105::q106::q107::q108::q109::q110::q111::q112::q113::q114::q115::q116::q117::q118::q119::q120::q121::q122::q123::q124::q125::q126::q127::q128::q129::q130::q131::q132::q133::q134::q135::q136::q137::q138::q139::q140::q141::q142::q143::q144::q145::q146::q147::q148::q149::q150::q151::q152::q153::[]).toArray,defers:=[] } W) :
  Calls prog 4 #[.slice aa na ca,.slice ab nb cb,.int .i64 n] w fun e w'=>e=.returned (.bool true)∧But [] w w':=by(
have LIAH:=af LIA
have LIBH:=af LIB
have LCAH:=af LCA
have LCBH:=af LCB
have PLAH:=af PLA
have PLBH:=af PLB
have SUH:=af SU
have LW1H:=af LW1
have COH:=af CO
have LW2H:=af LW2
have TTH:=af TT
clear LIA LIB LCA LCB PLA PLB SU LW1 CO LW2 TT
have hga:(na≤40∧¬ 40<na∧¬ 230<na)∨(40<na∧¬ na≤201∧¬ 230<na):=by omega
have hgb:(nb≤40∧¬ 40<nb∧¬ 230<nb)∨(40<nb∧¬ nb≤201∧¬ 230<nb):=by omega
clear hna hnb
have HB:=af (But.refl [] w)
go_enter func4,ntmps4
rcases hga with ⟨q1,q2,q3⟩|⟨q1,q2,q3⟩ <;> rcases hgb with ⟨r1,r2,r3⟩|⟨r1,r2,r3⟩
all_goals(
go_wp2_with fail
refine (ae LIAH _ (ae HB)).mono ?_
rintro e w1 ⟨v1,rfl,h1,hb⟩
replace HB:=af ((ae HB).trans' hb)
have RX:=af (h1)
clear h1 hb LIAH
go_wp2_with fail
refine (ae LIBH _ (ae HB)).mono ?_
rintro e w2 ⟨v2,rfl,h2,hb⟩
replace HB:=af ((ae HB).trans' hb)
replace RX:=af ((ae RX).but hb)
have RY:=af (h2)
clear h2 hb LIBH
go_wp2_with fail
refine (ae LCAH _ _ (ae RX)).mono ?_
rintro e w3 ⟨rfl,hb⟩
replace HB:=af ((ae HB).trans' hb)
replace RX:=af ((ae RX).but hb)
replace RY:=af ((ae RY).but hb)
clear hb LCAH
go_wp2_with fail
refine (ae PLAH _ (ae HB)).mono ?_
rintro e w50 ⟨va0,rfl,h5,hb⟩
replace HB:=af ((ae HB).trans' hb)
replace RX:=af ((ae RX).but hb)
replace RY:=af ((ae RY).but hb)
have FA0:=af (h5)
clear h5 hb
go_wp2_with fail
refine (ae PLBH _ (ae HB)).mono ?_
rintro e w60 ⟨vb0,rfl,h6,hb⟩
replace HB:=af ((ae HB).trans' hb)
replace RX:=af ((ae RX).but hb)
replace RY:=af ((ae RY).but hb)
replace FA0:=af ((ae FA0).but hb)
have FB0:=af (h6)
clear h6 hb
go_wp2_with fail
refine (ae SUH _ _ _ (ae HB) (ae FA0) (ae FB0)).mono ?_
rintro e w70 ⟨v70,rfl,h7,hb⟩
replace HB:=af ((ae HB).trans' hb)
replace RX:=af ((ae RX).but hb)
replace RY:=af ((ae RY).but hb)
have LS:=af (h7)
clear h7 hb FA0 FB0 SUH
go_wp2_with fail
refine (ae LW1H _ _ (.slice none 0 0) (ae HB) (ae LS) (fun h=>absurd h hz)).mono ?_
rintro e w8 ⟨rfl,hb⟩
replace HB:=af ((ae HB).trans' hb)
replace RX:=af ((ae RX).but hb)
replace RY:=af ((ae RY).but hb)
clear hb LS LW1H
go_wp2_with fail
refine (ae PLAH _ (ae HB)).mono ?_
rintro e w51 ⟨va1,rfl,h5,hb⟩
replace HB:=af ((ae HB).trans' hb)
replace RX:=af ((ae RX).but hb)
replace RY:=af ((ae RY).but hb)
have FA1:=af (h5)
clear h5 hb
go_wp2_with fail
refine (ae PLBH _ (ae HB)).mono ?_
rintro e w61 ⟨vb1,rfl,h6,hb⟩
replace HB:=af ((ae HB).trans' hb)
replace RX:=af ((ae RX).but hb)
replace RY:=af ((ae RY).but hb)
replace FA1:=af ((ae FA1).but hb)
have FB1:=af (h6)
clear h6 hb
go_wp2_with fail
refine (ae COH _ _ _ (ae HB) (ae FA1) (ae FB1)).mono ?_
rintro e w71 ⟨v71,rfl,h7,hb⟩
replace HB:=af ((ae HB).trans' hb)
replace RX:=af ((ae RX).but hb)
replace RY:=af ((ae RY).but hb)
have LC:=af (h7)
clear h7 hb FA1 FB1 COH
go_wp2_with fail
refine (ae LW2H _ _ (.slice none 0 0) (ae HB) (ae LC) (fun h=>absurd h hz)).mono ?_
rintro e w9 ⟨rfl,hb⟩
replace HB:=af ((ae HB).trans' hb)
replace RX:=af ((ae RX).but hb)
replace RY:=af ((ae RY).but hb)
clear hb LC LW2H
go_upto_if 107 with fail
go_cut [6] (fun s6 wx=>s6=.bool false∧wx=w9)
case first =>(
go_wp2_with fail
go_meet
exact⟨rfl,rfl⟩)
case rest =>(
obtain⟨rfl,rfl⟩:=hcut
rename ∀ a w,Code.wp _ _ _ a w→_=>hK
refine hK _ _ ?_
exact ae TTH _ _ (ae HB) (ae RX) _ _ _ _ _ _ _ _ _ _ _ _ _ _ _ _ _ _ _ _ _ _ _ _ _ _ _ _ _ _ _ _ _ _ _ _ _ _ _ _ _ _ _ _ _ _ _ _ _ _ _ _ _ _ _ _ _ _ _ _ _ _ _ _ _ _ _ _ _ _ _ _ _ _ _ _ _ _ _ _ _ _ _ _ _ _ _ _ _ _ _ _ _ _ _ _ _ _ _ _ _ _ _ _ _ _ _ _ _ _ _ _ _ _ _ _ _ _ _ _ _ _ _ _ _ _ _ _ _ _ _ _ _ _ _ _ _ _ _ _ _ _ _ _ _ _ _ _ _)))
theorem qdc (aa ab:Option Addr) (na ca nb cb:Nat) (fs gs:List Rat) (n:Int) (w:World) (hna:na≤40∨201<na∧na≤230) (hnb:nb≤40∨201<nb∧nb≤230) (zy:Int) (hz:¬ zy=0) (hzb:(zy==0)=false) (evS evC:Value) (gS gC:List Rat) (LIA:∀ W,But [] w W→Calls prog 16 #[.slice aa na ca] W fun e w'=>∃ v,e=.returned v∧za w' v fs∧But [] W w') (LIB:∀ W,But [] w W→Calls prog 16 #[.slice ab nb cb] W fun e w'=>∃ v,e=.returned v∧za w' v gs∧But [] W w') (LCA:∀ W v,za W v fs→Calls prog 17 #[v] W fun e w'=>e=.returned (.int .i64 0)∧But [] W w') (LCB:∀ W v,za W v gs→Calls prog 17 #[v] W fun e w'=>e=.returned (.int .i64 zy)∧But [] W w') (PLA:∀ W,But [] w W→Calls prog 19 #[.slice aa na ca] W fun e w'=>∃ v,e=.returned v∧au w' v fs∧But [] W w') (PLB:∀ W,But [] w W→Calls prog 19 #[.slice ab nb cb] W fun e w'=>∃ v,e=.returned v∧au w' v gs∧But [] W w') (SU:∀ W va vb,But [] w W→au W va fs→au W vb gs→Calls prog 18 #[va,vb] W fun e w'=>∃ v,e=.returned (.tuple #[v,evS])∧jb w' zy gS v∧But [] W w') (LW1:∀ W v x,But [] w W→jb W zy gS v→(zy=0→za W x gS)→Calls prog 22 #[v,evS,x,.int .i64 zy] W fun e w'=>e=.returned (.bool true)∧But [] W w') (CO:∀ W va vb,But [] w W→au W va fs→au W vb gs→Calls prog 23 #[va,vb] W fun e w'=>∃ v,e=.returned (.tuple #[v,evC])∧jb w' zy gC v∧But [] W w') (LW2:∀ W v x,But [] w W→jb W zy gC v→(zy=0→za W x gC)→Calls prog 22 #[v,evC,x,.int .i64 zy] W fun e w'=>e=.returned (.bool true)∧But [] W w') (TT:∀ W vx,But [] w W→za W vx fs→∀ (q1 q3 q4 q5 q8 q10 q11 q12 q13 q14 q15 q16 q17 q18 q19 q20 q21 q22 q23 q24 q25 q26 q27 q28 q29 q30 q31 q32 q33 q34 q35 q36 q37 q38 q39 q40 q41 q42 q43 q44 q45 q46 q47 q48 q49 q50 q51 q52 q53 q54 q55 q56 q57 q58 q59 q60 q61 q62 q63 q64 q65 q66 q67 q68 q69 q70 q71 q72 q73 q74 q75 q76 q77 q78 q79 q80 q81 q82 q83 q84 q85 q86 q87 q88 q89 q90 q91 q92 q93 q94 q95 q96 q97 q98 q99 q100 q101 q102 q103 q104 q105 q106 q107 q108 q109 q110 q111 q112 q113 q114 q115 q116 q117 q118 q119 q120 q121 q122 q123 q124 q125 q126 q127 q128 q129 q130 q131 q132 q133 q134 q135 q136 q137 q138 q139 q140 q141 q142 q143 q144 q145 q146 q147 q148 q149 q150 q151 q152 q153:Value),Code.wp prog (zez 14 uy) (bodyPost prog Tryz.f4 fun e w'=>e=.returned (.bool true)∧But [] w w') { tmps:=(.slice aa na ca::q1::.int .i64 n::q3::q4::q5::.bool false::vx::q8::.int .i64 0::q10::q11::q12::q13::q14::q15::q16::q17::q18::q19::q20::q21::q22::q23::q24::q25::q26::q27::q28::q29::q30::q31::q32::q33::q34::q35::q36::q37::q38::q39::q40::q41::q42::q43::q44::q45::q46::q47::q48::q49::q50::q51::q52::q53::q54::q55::q56::q57::q58::q59::q60::q61::q62::q63::q64::q65::q66::q67::q68::q69::q70::q71::q72::q73::q74::q75::q76::q77::q78::q79::q80::q81::q82::q83::q84::q85::q86::q87::q88::q89::q90::q91::q92::q93::q94::q95::q96::q97::q98::q99::q100::q101::q102::q103::q104::q105::q106::q107::q108::q109::q110::q111::q112::q113::q114::q115::q116::q117::q118::q119::q120::q121::q122::q123::q124::q125::q126::q127::q128::q129::q130::q131::q132::q133::q134::q135::q136::q137::q138::q139::q140::q141::q142::q143::q144::q145::q146::q147::q148::q149::q150::q151::q152::q153::[]).toArray,defers:=[] } W) :
  Calls prog 4 #[.slice aa na ca,.slice ab nb cb,.int .i64 n] w fun e w'=>e=.returned (.bool true)∧But [] w w':=by(
have LIAH:=af LIA
have LIBH:=af LIB
have LCAH:=af LCA
have LCBH:=af LCB
have PLAH:=af PLA
have PLBH:=af PLB
have SUH:=af SU
have LW1H:=af LW1
have COH:=af CO
have LW2H:=af LW2
have TTH:=af TT
clear LIA LIB LCA LCB PLA PLB SU LW1 CO LW2 TT
have hga:(na≤40∧¬ 40<na∧¬ 230<na)∨(40<na∧¬ na≤201∧¬ 230<na):=by omega
have hgb:(nb≤40∧¬ 40<nb∧¬ 230<nb)∨(40<nb∧¬ nb≤201∧¬ 230<nb):=by omega
clear hna hnb
have HB:=af (But.refl [] w)
go_enter func4,ntmps4
rcases hga with ⟨q1,q2,q3⟩|⟨q1,q2,q3⟩ <;> rcases hgb with ⟨r1,r2,r3⟩|⟨r1,r2,r3⟩
all_goals(
go_wp2_with fail
refine (ae LIAH _ (ae HB)).mono ?_
rintro e w1 ⟨v1,rfl,h1,hb⟩
replace HB:=af ((ae HB).trans' hb)
have RX:=af (h1)
clear h1 hb LIAH
go_wp2_with fail
refine (ae LIBH _ (ae HB)).mono ?_
rintro e w2 ⟨v2,rfl,h2,hb⟩
replace HB:=af ((ae HB).trans' hb)
replace RX:=af ((ae RX).but hb)
have RY:=af (h2)
clear h2 hb LIBH
go_wp2_with fail
refine (ae LCAH _ _ (ae RX)).mono ?_
rintro e w3 ⟨rfl,hb⟩
replace HB:=af ((ae HB).trans' hb)
replace RX:=af ((ae RX).but hb)
replace RY:=af ((ae RY).but hb)
clear hb LCAH
go_wp2_with fail
refine (ae LCBH _ _ (ae RY)).mono ?_
rintro e w4 ⟨rfl,hb⟩
replace HB:=af ((ae HB).trans' hb)
replace RX:=af ((ae RX).but hb)
replace RY:=af ((ae RY).but hb)
clear hb LCBH
go_wp2_with fail
refine (ae PLAH _ (ae HB)).mono ?_
rintro e w50 ⟨va0,rfl,h5,hb⟩
replace HB:=af ((ae HB).trans' hb)
replace RX:=af ((ae RX).but hb)
replace RY:=af ((ae RY).but hb)
have FA0:=af (h5)
clear h5 hb
go_wp2_with fail
refine (ae PLBH _ (ae HB)).mono ?_
rintro e w60 ⟨vb0,rfl,h6,hb⟩
replace HB:=af ((ae HB).trans' hb)
replace RX:=af ((ae RX).but hb)
replace RY:=af ((ae RY).but hb)
replace FA0:=af ((ae FA0).but hb)
have FB0:=af (h6)
clear h6 hb
go_wp2_with fail
refine (ae SUH _ _ _ (ae HB) (ae FA0) (ae FB0)).mono ?_
rintro e w70 ⟨v70,rfl,h7,hb⟩
replace HB:=af ((ae HB).trans' hb)
replace RX:=af ((ae RX).but hb)
replace RY:=af ((ae RY).but hb)
have LS:=af (h7)
clear h7 hb FA0 FB0 SUH
go_wp2_with fail
refine (ae LW1H _ _ (.slice none 0 0) (ae HB) (ae LS) (fun h=>absurd h hz)).mono ?_
rintro e w8 ⟨rfl,hb⟩
replace HB:=af ((ae HB).trans' hb)
replace RX:=af ((ae RX).but hb)
replace RY:=af ((ae RY).but hb)
clear hb LS LW1H
go_wp2_with fail
refine (ae PLAH _ (ae HB)).mono ?_
rintro e w51 ⟨va1,rfl,h5,hb⟩
replace HB:=af ((ae HB).trans' hb)
replace RX:=af ((ae RX).but hb)
replace RY:=af ((ae RY).but hb)
have FA1:=af (h5)
clear h5 hb
go_wp2_with fail
refine (ae PLBH _ (ae HB)).mono ?_
rintro e w61 ⟨vb1,rfl,h6,hb⟩
replace HB:=af ((ae HB).trans' hb)
replace RX:=af ((ae RX).but hb)
replace RY:=af ((ae RY).but hb)
replace FA1:=af ((ae FA1).but hb)
have FB1:=af (h6)
clear h6 hb
go_wp2_with fail
refine (ae COH _ _ _ (ae HB) (ae FA1) (ae FB1)).mono ?_
rintro e w71 ⟨v71,rfl,h7,hb⟩
replace HB:=af ((ae HB).trans' hb)
replace RX:=af ((ae RX).but hb)
replace RY:=af ((ae RY).but hb)
have LC:=af (h7)
clear h7 hb FA1 FB1 COH
go_wp2_with fail
refine (ae LW2H _ _ (.slice none 0 0) (ae HB) (ae LC) (fun h=>absurd h hz)).mono ?_
rintro e w9 ⟨rfl,hb⟩
replace HB:=af ((ae HB).trans' hb)
replace RX:=af ((ae RX).but hb)
replace RY:=af ((ae RY).but hb)
clear hb LC LW2H
go_upto_if 107 with fail
go_cut [6] (fun s6 wx=>s6=.bool false∧wx=w9)
case first =>(
go_wp2_with fail
go_meet
exact⟨rfl,rfl⟩)
case rest =>(
obtain⟨rfl,rfl⟩:=hcut
rename ∀ a w,Code.wp _ _ _ a w→_=>hK
refine hK _ _ ?_
exact ae TTH _ _ (ae HB) (ae RX) _ _ _ _ _ _ _ _ _ _ _ _ _ _ _ _ _ _ _ _ _ _ _ _ _ _ _ _ _ _ _ _ _ _ _ _ _ _ _ _ _ _ _ _ _ _ _ _ _ _ _ _ _ _ _ _ _ _ _ _ _ _ _ _ _ _ _ _ _ _ _ _ _ _ _ _ _ _ _ _ _ _ _ _ _ _ _ _ _ _ _ _ _ _ _ _ _ _ _ _ _ _ _ _ _ _ _ _ _ _ _ _ _ _ _ _ _ _ _ _ _ _ _ _ _ _ _ _ _ _ _ _ _ _ _ _ _ _ _ _ _ _ _ _ _ _ _ _ _)))
theorem qid (aa ab:Option Addr) (na ca nb cb:Nat) (fs gs:List Rat) (n:Int) (w:World) (hna:na≤40∨201<na∧na≤230) (hnb:nb≤40∨201<nb∧nb≤230) (evC:Value) (gS gC:List Rat) (n1 n2 m q p:Nat) (e1:(n1:Int)-1=(m:Int)) (e2:(n2:Int)-1=(q:Int)) (hn1:n1≤300) (hn2:n2≤300) (HE:(m:Int)*(q:Int)=(p:Int)) (hp:p≤100000) (hl:200<p) (LIA:∀ W,But [] w W→Calls prog 16 #[.slice aa na ca] W fun e w'=>∃ v,e=.returned v∧za w' v fs∧But [] W w') (LIB:∀ W,But [] w W→Calls prog 16 #[.slice ab nb cb] W fun e w'=>∃ v,e=.returned v∧za w' v gs∧But [] W w') (LCA:∀ W v,za W v fs→Calls prog 17 #[v] W fun e w'=>e=.returned (.int .i64 0)∧But [] W w') (LCB:∀ W v,za W v gs→Calls prog 17 #[v] W fun e w'=>e=.returned (.int .i64 0)∧But [] W w') (PLA:∀ W,But [] w W→Calls prog 19 #[.slice aa na ca] W fun e w'=>∃ v,e=.returned v∧au w' v fs∧But [] W w') (PLB:∀ W,But [] w W→Calls prog 19 #[.slice ab nb cb] W fun e w'=>∃ v,e=.returned v∧au w' v gs∧But [] W w') (SU:∀ W va vb,But [] w W→au W va fs→au W vb gs→Calls prog 18 #[va,vb] W fun e w'=>∃ v,e=.returned (.tuple #[v,.nilIface])∧jb w' 0 gS v∧But [] W w') (LW1:∀ W v x,But [] w W→jb W 0 gS v→(0=0→za W x gS)→Calls prog 22 #[v,.nilIface,x,.int .i64 0] W fun e w'=>e=.returned (.bool true)∧But [] W w') (RT:∀ W va vb,za W va fs→za W vb gs→Calls prog 21 #[va,vb] W fun e w'=>∃ v',e=.returned v'∧za w' v' gS∧But [] W w') (TRS:∀ W v,za W v gS→Calls prog 20 #[v] W fun e w'=>∃ v',e=.returned v'∧za w' v' gS∧But [] W w') (TRA:∀ W v,za W v fs→Calls prog 20 #[v] W fun e w'=>∃ a c,e=.returned (.slice a n1 c)∧But [] W w') (TRB:∀ W v,za W v gs→Calls prog 20 #[v] W fun e w'=>∃ a c,e=.returned (.slice a n2 c)∧But [] W w') (CO:∀ W va vb,But [] w W→au W va fs→au W vb gs→Calls prog 23 #[va,vb] W fun e w'=>∃ v,e=.returned (.tuple #[v,evC])∧jb w' 4 gC v∧But [] W w') (LW2:∀ W v x,But [] w W→jb W 4 gC v→(4=0→za W x gC)→Calls prog 22 #[v,evC,x,.int .i64 4] W fun e w'=>e=.returned (.bool true)∧But [] W w') (TT:∀ W vx,But [] w W→za W vx fs→∀ (q1 q3 q4 q5 q8 q10 q11 q12 q13 q14 q15 q16 q17 q18 q19 q20 q21 q22 q23 q24 q25 q26 q27 q28 q29 q30 q31 q32 q33 q34 q35 q36 q37 q38 q39 q40 q41 q42 q43 q44 q45 q46 q47 q48 q49 q50 q51 q52 q53 q54 q55 q56 q57 q58 q59 q60 q61 q62 q63 q64 q65 q66 q67 q68 q69 q70 q71 q72 q73 q74 q75 q76 q77 q78 q79 q80 q81 q82 q83 q84 q85 q86 q87 q88 q89 q90 q91 q92 q93 q94 q95 q96 q97 q98 q99 q100 q101 q102 q103 q104 q105 q106 q107 q108 q109 q110 q111 q112 q113 q114 q115 q116 q117 q118 q119 q120 q121 q122 q123 q124 q125 q126 q127 q128 q129 q130 q131 q132 q133 q134 q135 q136 q137 q138 q139 q140 q141 q142 q143 q144 q145 q146 q147 q148 q149 q150 q151 q152 q153:Value),Code.wp prog (zez 14 uy) (bodyPost prog Tryz.f4 fun e w'=>e=.returned (.bool true)∧But [] w w') { tmps:=(.slice aa na ca::q1::.int .i64 n::q3::q4::q5::.bool false::vx::q8::.int .i64 0::q10::q11::q12::q13::q14::q15::q16::q17::q18::q19::q20::q21::q22::q23::q24::q25::q26::q27::q28::q29::q30::q31::q32::q33::q34::q35::q36::q37::q38::q39::q40::q41::q42::q43::q44::q45::q46::q47::q48::q49::q50::q51::q52::q53::q54::q55::q56::q57::q58::q59::q60::q61::q62::q63::q64::q65::q66::q67::q68::q69::q70::q71::q72::q73::q74::q75::q76::q77::q78::q79::q80::q81::q82::q83::q84::q85::q86::q87::q88::q89::q90::q91::q92::q93::q94::q95::q96::q97::q98::q99::q100::q101::q102::q103::q104::q105::q106::q107::q108::q109::q110::q111::q112::q113::q114::q115::q116::q117::q118::q119::q120::q121::q122::q123::q124::q125::q126::q127::q128::q129::q130::q131::q132::q133::q134::q135::q136::q137::q138::q139::q140::q141::q142::q143::q144::q145::q146::q147::q148::q149::q150::q151::q152::q153::[]).toArray,defers:=[] } W) :
  Calls prog 4 #[.slice aa na ca,.slice ab nb cb,.int .i64 n] w fun e w'=>e=.returned (.bool true)∧But [] w w':=by(
have LIAH:=af LIA
have LIBH:=af LIB
have LCAH:=af LCA
have LCBH:=af LCB
have PLAH:=af PLA
have PLBH:=af PLB
have SUH:=af SU
have LW1H:=af LW1
have RTH:=af RT
have TRSH:=af TRS
have TRAH:=af TRA
have TRBH:=af TRB
have COH:=af CO
have LW2H:=af LW2
have TTH:=af TT
clear LIA LIB LCA LCB PLA PLB SU LW1 RT TRS TRA TRB CO LW2 TT
have hga:(na≤40∧¬ 40<na∧¬ 230<na)∨(40<na∧¬ na≤201∧¬ 230<na):=by omega
have hgb:(nb≤40∧¬ 40<nb∧¬ 230<nb)∨(40<nb∧¬ nb≤201∧¬ 230<nb):=by omega
clear hna hnb
have HEH:=af HE
clear HE
have HB:=af (But.refl [] w)
go_enter func4,ntmps4
rcases hga with ⟨q1,q2,q3⟩|⟨q1,q2,q3⟩ <;> rcases hgb with ⟨r1,r2,r3⟩|⟨r1,r2,r3⟩
all_goals(
go_wp2_with fail
refine (ae LIAH _ (ae HB)).mono ?_
rintro e w1 ⟨v1,rfl,h1,hb⟩
replace HB:=af ((ae HB).trans' hb)
have RX:=af (h1)
clear h1 hb LIAH
go_wp2_with fail
refine (ae LIBH _ (ae HB)).mono ?_
rintro e w2 ⟨v2,rfl,h2,hb⟩
replace HB:=af ((ae HB).trans' hb)
replace RX:=af ((ae RX).but hb)
have RY:=af (h2)
clear h2 hb LIBH
go_wp2_with fail
refine (ae LCAH _ _ (ae RX)).mono ?_
rintro e w3 ⟨rfl,hb⟩
replace HB:=af ((ae HB).trans' hb)
replace RX:=af ((ae RX).but hb)
replace RY:=af ((ae RY).but hb)
clear hb LCAH
go_wp2_with fail
refine (ae LCBH _ _ (ae RY)).mono ?_
rintro e w4 ⟨rfl,hb⟩
replace HB:=af ((ae HB).trans' hb)
replace RX:=af ((ae RX).but hb)
replace RY:=af ((ae RY).but hb)
clear hb LCBH
go_wp2_with fail
refine (ae PLAH _ (ae HB)).mono ?_
rintro e w50 ⟨va0,rfl,h5,hb⟩
replace HB:=af ((ae HB).trans' hb)
replace RX:=af ((ae RX).but hb)
replace RY:=af ((ae RY).but hb)
have FA0:=af (h5)
clear h5 hb
go_wp2_with fail
refine (ae PLBH _ (ae HB)).mono ?_
rintro e w60 ⟨vb0,rfl,h6,hb⟩
replace HB:=af ((ae HB).trans' hb)
replace RX:=af ((ae RX).but hb)
replace RY:=af ((ae RY).but hb)
replace FA0:=af ((ae FA0).but hb)
have FB0:=af (h6)
clear h6 hb
go_wp2_with fail
refine (ae SUH _ _ _ (ae HB) (ae FA0) (ae FB0)).mono ?_
rintro e w70 ⟨v70,rfl,h7,hb⟩
replace HB:=af ((ae HB).trans' hb)
replace RX:=af ((ae RX).but hb)
replace RY:=af ((ae RY).but hb)
have LS:=af (h7)
clear h7 hb FA0 FB0 SUH
go_wp2_with fail
refine (ae RTH _ _ _ (ae RX) (ae RY)).mono ?_
rintro e w8 ⟨v8,rfl,h8,hb⟩
replace HB:=af ((ae HB).trans' hb)
replace RX:=af ((ae RX).but hb)
replace RY:=af ((ae RY).but hb)
replace LS:=af ((ae LS).but hb)
have RS:=af (h8)
clear h8 hb RTH
go_wp2_with fail
refine (ae TRSH _ _ (ae RS)).mono ?_
rintro e w9 ⟨v9,rfl,h9,hb⟩
replace HB:=af ((ae HB).trans' hb)
replace RX:=af ((ae RX).but hb)
replace RY:=af ((ae RY).but hb)
replace LS:=af ((ae LS).but hb)
have RW:=af (h9)
clear h9 hb RS TRSH
go_wp2_with fail
refine (ae LW1H _ _ _ (ae HB) (ae LS) (fun _=>ae RW)).mono ?_
rintro e wa ⟨rfl,hb⟩
replace HB:=af ((ae HB).trans' hb)
replace RX:=af ((ae RX).but hb)
replace RY:=af ((ae RY).but hb)
clear hb LS RW LW1H
go_wp2_with fail
refine (ae TRAH _ _ (ae RX)).mono ?_
rintro e wb ⟨ta,tc,rfl,hb⟩
replace HB:=af ((ae HB).trans' hb)
replace RX:=af ((ae RX).but hb)
replace RY:=af ((ae RY).but hb)
clear hb TRAH
go_wp2_with fail
refine (ae TRBH _ _ (ae RY)).mono ?_
rintro e wc ⟨tb,td,rfl,hb⟩
replace HB:=af ((ae HB).trans' hb)
replace RX:=af ((ae RX).but hb)
replace RY:=af ((ae RY).but hb)
clear hb TRBH
have HEE:=ae HEH
clear HEH
go_wp2_with fail
refine (ae PLAH _ (ae HB)).mono ?_
rintro e w51 ⟨va1,rfl,h5,hb⟩
replace HB:=af ((ae HB).trans' hb)
replace RX:=af ((ae RX).but hb)
replace RY:=af ((ae RY).but hb)
have FA1:=af (h5)
clear h5 hb
go_wp2_with fail
refine (ae PLBH _ (ae HB)).mono ?_
rintro e w61 ⟨vb1,rfl,h6,hb⟩
replace HB:=af ((ae HB).trans' hb)
replace RX:=af ((ae RX).but hb)
replace RY:=af ((ae RY).but hb)
replace FA1:=af ((ae FA1).but hb)
have FB1:=af (h6)
clear h6 hb
go_wp2_with fail
refine (ae COH _ _ _ (ae HB) (ae FA1) (ae FB1)).mono ?_
rintro e w71 ⟨v71,rfl,h7,hb⟩
replace HB:=af ((ae HB).trans' hb)
replace RX:=af ((ae RX).but hb)
replace RY:=af ((ae RY).but hb)
have LC:=af (h7)
clear h7 hb FA1 FB1 COH
go_wp2_with fail
refine (ae LW2H _ _ _ (ae HB) (ae LC) (fun h=>absurd h (by decide))).mono ?_
rintro e we ⟨rfl,hb⟩
replace HB:=af ((ae HB).trans' hb)
replace RX:=af ((ae RX).but hb)
replace RY:=af ((ae RY).but hb)
clear hb LC LW2H
go_upto_if 107 with fail
go_cut [6] (fun s6 wx=>s6=.bool false∧wx=we)
case first =>(
go_wp2_with fail
go_meet
exact⟨rfl,rfl⟩)
case rest =>(
obtain⟨rfl,rfl⟩:=hcut
rename ∀ a w,Code.wp _ _ _ a w→_=>hK
refine hK _ _ ?_
exact ae TTH _ _ (ae HB) (ae RX) _ _ _ _ _ _ _ _ _ _ _ _ _ _ _ _ _ _ _ _ _ _ _ _ _ _ _ _ _ _ _ _ _ _ _ _ _ _ _ _ _ _ _ _ _ _ _ _ _ _ _ _ _ _ _ _ _ _ _ _ _ _ _ _ _ _ _ _ _ _ _ _ _ _ _ _ _ _ _ _ _ _ _ _ _ _ _ _ _ _ _ _ _ _ _ _ _ _ _ _ _ _ _ _ _ _ _ _ _ _ _ _ _ _ _ _ _ _ _ _ _ _ _ _ _ _ _ _ _ _ _ _ _ _ _ _ _ _ _ _ _ _ _ _ _ _ _ _ _)))
theorem qdb (aa ab:Option Addr) (na ca nb cb:Nat) (fs gs:List Rat) (n:Int) (w:World) (hna:na≤40∨201<na∧na≤230) (hnb:nb≤40∨201<nb∧nb≤230) (gS gC:List Rat) (n1 n2 m q p:Nat) (e1:(n1:Int)-1=(m:Int)) (e2:(n2:Int)-1=(q:Int)) (hn1:n1≤300) (hn2:n2≤300) (HE:(m:Int)*(q:Int)=(p:Int)) (hp:p≤100000) (hl:¬ 200<p) (LIA:∀ W,But [] w W→Calls prog 16 #[.slice aa na ca] W fun e w'=>∃ v,e=.returned v∧za w' v fs∧But [] W w') (LIB:∀ W,But [] w W→Calls prog 16 #[.slice ab nb cb] W fun e w'=>∃ v,e=.returned v∧za w' v gs∧But [] W w') (LCA:∀ W v,za W v fs→Calls prog 17 #[v] W fun e w'=>e=.returned (.int .i64 0)∧But [] W w') (LCB:∀ W v,za W v gs→Calls prog 17 #[v] W fun e w'=>e=.returned (.int .i64 0)∧But [] W w') (PLA:∀ W,But [] w W→Calls prog 19 #[.slice aa na ca] W fun e w'=>∃ v,e=.returned v∧au w' v fs∧But [] W w') (PLB:∀ W,But [] w W→Calls prog 19 #[.slice ab nb cb] W fun e w'=>∃ v,e=.returned v∧au w' v gs∧But [] W w') (SU:∀ W va vb,But [] w W→au W va fs→au W vb gs→Calls prog 18 #[va,vb] W fun e w'=>∃ v,e=.returned (.tuple #[v,.nilIface])∧jb w' 0 gS v∧But [] W w') (LW1:∀ W v x,But [] w W→jb W 0 gS v→(0=0→za W x gS)→Calls prog 22 #[v,.nilIface,x,.int .i64 0] W fun e w'=>e=.returned (.bool true)∧But [] W w') (RT:∀ W va vb,za W va fs→za W vb gs→Calls prog 21 #[va,vb] W fun e w'=>∃ v',e=.returned v'∧za w' v' gS∧But [] W w') (TRS:∀ W v,za W v gS→Calls prog 20 #[v] W fun e w'=>∃ v',e=.returned v'∧za w' v' gS∧But [] W w') (TRA:∀ W v,za W v fs→Calls prog 20 #[v] W fun e w'=>∃ a c,e=.returned (.slice a n1 c)∧But [] W w') (TRB:∀ W v,za W v gs→Calls prog 20 #[v] W fun e w'=>∃ a c,e=.returned (.slice a n2 c)∧But [] W w') (CO:∀ W va vb,But [] w W→au W va fs→au W vb gs→Calls prog 23 #[va,vb] W fun e w'=>∃ v,e=.returned (.tuple #[v,.nilIface])∧jb w' 0 gC v∧But [] W w') (LW2:∀ W v x,But [] w W→jb W 0 gC v→(0=0→za W x gC)→Calls prog 22 #[v,.nilIface,x,.int .i64 0] W fun e w'=>e=.returned (.bool true)∧But [] W w') (RC:∀ W va vb,za W va fs→za W vb gs→Calls prog 24 #[va,vb] W fun e w'=>∃ v',e=.returned v'∧za w' v' gC∧But [] W w') (TT:∀ W vx,But [] w W→za W vx fs→∀ (q1 q3 q4 q5 q8 q10 q11 q12 q13 q14 q15 q16 q17 q18 q19 q20 q21 q22 q23 q24 q25 q26 q27 q28 q29 q30 q31 q32 q33 q34 q35 q36 q37 q38 q39 q40 q41 q42 q43 q44 q45 q46 q47 q48 q49 q50 q51 q52 q53 q54 q55 q56 q57 q58 q59 q60 q61 q62 q63 q64 q65 q66 q67 q68 q69 q70 q71 q72 q73 q74 q75 q76 q77 q78 q79 q80 q81 q82 q83 q84 q85 q86 q87 q88 q89 q90 q91 q92 q93 q94 q95 q96 q97 q98 q99 q100 q101 q102 q103 q104 q105 q106 q107 q108 q109 q110 q111 q112 q113 q114 q115 q116 q117 q118 q119 q120 q121 q122 q123 q124 q125 q126 q127 q128 q129 q130 q131 q132 q133 q134 q135 q136 q137 q138 q139 q140 q141 q142 q143 q144 q145 q146 q147 q148 q149 q150 q151 q152 q153:Value),Code.wp prog (zez 14 uy) (bodyPost prog Tryz.f4 fun e w'=>e=.returned (.bool true)∧But [] w w') { tmps:=(.slice aa na ca::q1::.int .i64 n::q3::q4::q5::.bool false::vx::q8::.int .i64 0::q10::q11::q12::q13::q14::q15::q16::q17::q18::q19::q20::q21::q22::q23::q24::q25::q26::q27::q28::q29::q30::q31::q32::q33::q34::q35::q36::q37::q38::q39::q40::q41::q42::q43::q44::q45::q46::q47::q48::q49::q50::q51::q52::q53::q54::q55::q56::q57::q58::q59::q60::q61::q62::q63::q64::q65::q66::q67::q68::q69::q70::q71::q72::q73::q74::q75::q76::q77::q78::q79::q80::q81::q82::q83::q84::q85::q86::q87::q88::q89::q90::q91::q92::q93::q94::q95::q96::q97::q98::q99::q100::q101::q102::q103::q104::q105::q106::q107::q108::q109::q110::q111::q112::q113::q114::q115::q116::q117::q118::q119::q120::q121::q122::q123::q124::q125::q126::q127::q128::q129::q130::q131::q132::q133::q134::q135::q136::q137::q138::q139::q140::q141::q142::q143::q144::q145::q146::q147::q148::q149::q150::q151::q152::q153::[]).toArray,defers:=[] } W) :
  Calls prog 4 #[.slice aa na ca,.slice ab nb cb,.int .i64 n] w fun e w'=>e=.returned (.bool true)∧But [] w w':=by(
have LIAH:=af LIA
have LIBH:=af LIB
have LCAH:=af LCA
have LCBH:=af LCB
have PLAH:=af PLA
have PLBH:=af PLB
have SUH:=af SU
have LW1H:=af LW1
have RTH:=af RT
have TRSH:=af TRS
have TRAH:=af TRA
have TRBH:=af TRB
have COH:=af CO
have LW2H:=af LW2
have RCH:=af RC
have TTH:=af TT
clear LIA LIB LCA LCB PLA PLB SU LW1 RT TRS TRA TRB CO LW2 RC TT
have hga:(na≤40∧¬ 40<na∧¬ 230<na)∨(40<na∧¬ na≤201∧¬ 230<na):=by omega
have hgb:(nb≤40∧¬ 40<nb∧¬ 230<nb)∨(40<nb∧¬ nb≤201∧¬ 230<nb):=by omega
clear hna hnb
have HEH:=af HE
clear HE
have HB:=af (But.refl [] w)
go_enter func4,ntmps4
rcases hga with ⟨q1,q2,q3⟩|⟨q1,q2,q3⟩ <;> rcases hgb with ⟨r1,r2,r3⟩|⟨r1,r2,r3⟩
all_goals(
go_wp2_with fail
refine (ae LIAH _ (ae HB)).mono ?_
rintro e w1 ⟨v1,rfl,h1,hb⟩
replace HB:=af ((ae HB).trans' hb)
have RX:=af (h1)
clear h1 hb LIAH
go_wp2_with fail
refine (ae LIBH _ (ae HB)).mono ?_
rintro e w2 ⟨v2,rfl,h2,hb⟩
replace HB:=af ((ae HB).trans' hb)
replace RX:=af ((ae RX).but hb)
have RY:=af (h2)
clear h2 hb LIBH
go_wp2_with fail
refine (ae LCAH _ _ (ae RX)).mono ?_
rintro e w3 ⟨rfl,hb⟩
replace HB:=af ((ae HB).trans' hb)
replace RX:=af ((ae RX).but hb)
replace RY:=af ((ae RY).but hb)
clear hb LCAH
go_wp2_with fail
refine (ae LCBH _ _ (ae RY)).mono ?_
rintro e w4 ⟨rfl,hb⟩
replace HB:=af ((ae HB).trans' hb)
replace RX:=af ((ae RX).but hb)
replace RY:=af ((ae RY).but hb)
clear hb LCBH
go_wp2_with fail
refine (ae PLAH _ (ae HB)).mono ?_
rintro e w50 ⟨va0,rfl,h5,hb⟩
replace HB:=af ((ae HB).trans' hb)
replace RX:=af ((ae RX).but hb)
replace RY:=af ((ae RY).but hb)
have FA0:=af (h5)
clear h5 hb
go_wp2_with fail
refine (ae PLBH _ (ae HB)).mono ?_
rintro e w60 ⟨vb0,rfl,h6,hb⟩
replace HB:=af ((ae HB).trans' hb)
replace RX:=af ((ae RX).but hb)
replace RY:=af ((ae RY).but hb)
replace FA0:=af ((ae FA0).but hb)
have FB0:=af (h6)
clear h6 hb
go_wp2_with fail
refine (ae SUH _ _ _ (ae HB) (ae FA0) (ae FB0)).mono ?_
rintro e w70 ⟨v70,rfl,h7,hb⟩
replace HB:=af ((ae HB).trans' hb)
replace RX:=af ((ae RX).but hb)
replace RY:=af ((ae RY).but hb)
have LS:=af (h7)
clear h7 hb FA0 FB0 SUH
go_wp2_with fail
refine (ae RTH _ _ _ (ae RX) (ae RY)).mono ?_
rintro e w8 ⟨v8,rfl,h8,hb⟩
replace HB:=af ((ae HB).trans' hb)
replace RX:=af ((ae RX).but hb)
replace RY:=af ((ae RY).but hb)
replace LS:=af ((ae LS).but hb)
have RS:=af (h8)
clear h8 hb RTH
go_wp2_with fail
refine (ae TRSH _ _ (ae RS)).mono ?_
rintro e w9 ⟨v9,rfl,h9,hb⟩
replace HB:=af ((ae HB).trans' hb)
replace RX:=af ((ae RX).but hb)
replace RY:=af ((ae RY).but hb)
replace LS:=af ((ae LS).but hb)
have RW:=af (h9)
clear h9 hb RS TRSH
go_wp2_with fail
refine (ae LW1H _ _ _ (ae HB) (ae LS) (fun _=>ae RW)).mono ?_
rintro e wa ⟨rfl,hb⟩
replace HB:=af ((ae HB).trans' hb)
replace RX:=af ((ae RX).but hb)
replace RY:=af ((ae RY).but hb)
clear hb LS RW LW1H
go_wp2_with fail
refine (ae TRAH _ _ (ae RX)).mono ?_
rintro e wb ⟨ta,tc,rfl,hb⟩
replace HB:=af ((ae HB).trans' hb)
replace RX:=af ((ae RX).but hb)
replace RY:=af ((ae RY).but hb)
clear hb TRAH
go_wp2_with fail
refine (ae TRBH _ _ (ae RY)).mono ?_
rintro e wc ⟨tb,td,rfl,hb⟩
replace HB:=af ((ae HB).trans' hb)
replace RX:=af ((ae RX).but hb)
replace RY:=af ((ae RY).but hb)
clear hb TRBH
have HEE:=ae HEH
clear HEH
go_wp2_with fail
refine (ae PLAH _ (ae HB)).mono ?_
rintro e w51 ⟨va1,rfl,h5,hb⟩
replace HB:=af ((ae HB).trans' hb)
replace RX:=af ((ae RX).but hb)
replace RY:=af ((ae RY).but hb)
have FA1:=af (h5)
clear h5 hb
go_wp2_with fail
refine (ae PLBH _ (ae HB)).mono ?_
rintro e w61 ⟨vb1,rfl,h6,hb⟩
replace HB:=af ((ae HB).trans' hb)
replace RX:=af ((ae RX).but hb)
replace RY:=af ((ae RY).but hb)
replace FA1:=af ((ae FA1).but hb)
have FB1:=af (h6)
clear h6 hb
go_wp2_with fail
refine (ae COH _ _ _ (ae HB) (ae FA1) (ae FB1)).mono ?_
rintro e w71 ⟨v71,rfl,h7,hb⟩
replace HB:=af ((ae HB).trans' hb)
replace RX:=af ((ae RX).but hb)
replace RY:=af ((ae RY).but hb)
have LC:=af (h7)
clear h7 hb FA1 FB1 COH
go_wp2_with fail
refine (ae RCH _ _ _ (ae RX) (ae RY)).mono ?_
rintro e wd ⟨vd,rfl,hd,hb⟩
replace HB:=af ((ae HB).trans' hb)
replace RX:=af ((ae RX).but hb)
replace RY:=af ((ae RY).but hb)
replace LC:=af ((ae LC).but hb)
have RD:=af (hd)
clear hd hb RCH
go_wp2_with fail
refine (ae LW2H _ _ _ (ae HB) (ae LC) (fun _=>ae RD)).mono ?_
rintro e we ⟨rfl,hb⟩
replace HB:=af ((ae HB).trans' hb)
replace RX:=af ((ae RX).but hb)
replace RY:=af ((ae RY).but hb)
clear hb LC RD LW2H
go_upto_if 107 with fail
go_cut [6] (fun s6 wx=>s6=.bool false∧wx=we)
case first =>(
go_wp2_with fail
go_meet
exact⟨rfl,rfl⟩)
case rest =>(
obtain⟨rfl,rfl⟩:=hcut
rename ∀ a w,Code.wp _ _ _ a w→_=>hK
refine hK _ _ ?_
exact ae TTH _ _ (ae HB) (ae RX) _ _ _ _ _ _ _ _ _ _ _ _ _ _ _ _ _ _ _ _ _ _ _ _ _ _ _ _ _ _ _ _ _ _ _ _ _ _ _ _ _ _ _ _ _ _ _ _ _ _ _ _ _ _ _ _ _ _ _ _ _ _ _ _ _ _ _ _ _ _ _ _ _ _ _ _ _ _ _ _ _ _ _ _ _ _ _ _ _ _ _ _ _ _ _ _ _ _ _ _ _ _ _ _ _ _ _ _ _ _ _ _ _ _ _ _ _ _ _ _ _ _ _ _ _ _ _ _ _ _ _ _ _ _ _ _ _ _ _ _ _ _ _ _ _ _ _ _ _)))
theorem qda (aa ab:Option Addr) (na ca nb cb:Nat) (n:Int) (w:World) (h:(40<na∧na≤201)∨(40<nb∧nb≤201)∨230<na∨230<nb) :
  Calls prog 4 #[.slice aa na ca,.slice ab nb cb,.int .i64 n] w fun e w'=>e=.returned (.bool true)∧But [] w w':=by(
have A:(na≤40∧¬ 40<na∧¬ 230<na)∨(40<na∧na≤201∧¬ 230<na)∨(40<na∧¬ na≤201∧230<na)∨(40<na∧¬ na≤201∧¬ 230<na):=by omega
have B:(nb≤40∧¬ 40<nb∧¬ 230<nb)∨(40<nb∧nb≤201∧¬ 230<nb)∨(40<nb∧¬ nb≤201∧230<nb)∨(40<nb∧¬ nb≤201∧¬ 230<nb):=by omega
go_enter func4,ntmps4
rcases A with ⟨a1,a2,a3⟩|⟨a1,a2,a3⟩|⟨a1,a2,a3⟩|⟨a1,a2,a3⟩ <;> rcases B with ⟨c1,c2,c3⟩|⟨c1,c2,c3⟩|⟨c1,c2,c3⟩|⟨c1,c2,c3⟩
all_goals first
 | (exfalso;omega)
 | (go_wp2;go_ret;exact⟨rfl,But.refl _ _⟩))
end Go.Proofs.YtpmjeclpkahkmaaGreatDoor
