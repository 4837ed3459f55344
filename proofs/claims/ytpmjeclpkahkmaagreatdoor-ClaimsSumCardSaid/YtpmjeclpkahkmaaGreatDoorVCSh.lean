/- The law ClaimsSum, its end: so many amou -/
import Derived.Test.YtpmjeclpkahkmaaGreatDoorVCSf
import Derived.Test.YtpmjeclpkahkmaaGreatDoorVCSg
namespace Go.Proofs.YtpmjeclpkahkmaaGreatDoor
open Go.Proofs.Tryz
open Go.RowKit
set_option maxHeartbeats 64000000
set_option maxRecDepth 100000
set_option linter.unusedVariables false
def zez:Nat→Code→Code
 | 0,c=>c
 | n+1,.seq _ b=>zez n b
 | _+1,c=>c
noncomputable def uy:Code:=(Tryz.f4.body).getD .skip
def jb (w:World) (z:Int) (gl:List Rat) (v:Value):Prop:=(z=0∧au w v gl)∨(z≠0∧v=.slice none 0 0)
theorem jb.but {w w':World} {z:Int} {gl:List Rat} {v:Value} (h:jb w z gl v) (hb:But [] w w'):jb w' z gl v:=h.imp (fun ⟨a,b⟩=>⟨a,b.but hb⟩) id
theorem qdf (w W:World) (aa:Option Addr) (na ca:Nat) (fs:List Rat) (vx:Value) (n:Int) (HB:Hid (But [] w W)) (RX:Hid (za W vx fs)) (er:Int) (evT:Value) (gl:List Rat) (hz:¬ er=0) (hzb:(er==0)=false) (PLAH:Hid (∀ W,But [] w W→Calls prog 19 #[.slice aa na ca] W fun e w'=>∃ v,e=.returned v∧au w' v fs∧But [] W w')) (TIH:Hid (∀ W va,But [] w W→au W va fs→Calls prog 25 #[va,.int .i64 n] W fun e w'=>∃ v,e=.returned (.tuple #[v,evT])∧jb w' er gl v∧But [] W w')) (LWH:Hid (∀ W v x,But [] w W→jb W er gl v→(er=0→za W x gl)→Calls prog 22 #[v,evT,x,.int .i64 er] W fun e w'=>e=.returned (.bool true)∧But [] W w')) (q1 q3 q4 q5 q8 q10 q11 q12 q13 q14 q15 q16 q17 q18 q19 q20 q21 q22 q23 q24 q25 q26 q27 q28 q29 q30 q31 q32 q33 q34 q35 q36 q37 q38 q39 q40 q41 q42 q43 q44 q45 q46 q47 q48 q49 q50 q51 q52 q53 q54 q55 q56 q57 q58 q59 q60 q61 q62 q63 q64 q65 q66 q67 q68 q69 q70 q71 q72 q73 q74 q75 q76 q77 q78 q79 q80 q81 q82 q83 q84 q85 q86 q87 q88 q89 q90 q91 q92 q93 q94 q95 q96 q97 q98 q99 q100 q101 q102 q103 q104 q105 q106 q107 q108 q109 q110 q111 q112 q113 q114 q115 q116 q117 q118 q119 q120 q121 q122 q123 q124 q125 q126 q127 q128 q129 q130 q131 q132 q133 q134 q135 q136 q137 q138 q139 q140 q141 q142 q143 q144 q145 q146 q147 q148 q149 q150 q151 q152 q153:Value) :
  Code.wp prog (zez 14 uy) (bodyPost prog Tryz.f4 fun e w'=>e=.returned (.bool true)∧But [] w w') { tmps:=(.slice aa na ca::q1::.int .i64 n::q3::q4::q5::.bool false::vx::q8::.int .i64 er::q10::q11::q12::q13::q14::q15::q16::q17::q18::q19::q20::q21::q22::q23::q24::q25::q26::q27::q28::q29::q30::q31::q32::q33::q34::q35::q36::q37::q38::q39::q40::q41::q42::q43::q44::q45::q46::q47::q48::q49::q50::q51::q52::q53::q54::q55::q56::q57::q58::q59::q60::q61::q62::q63::q64::q65::q66::q67::q68::q69::q70::q71::q72::q73::q74::q75::q76::q77::q78::q79::q80::q81::q82::q83::q84::q85::q86::q87::q88::q89::q90::q91::q92::q93::q94::q95::q96::q97::q98::q99::q100::q101::q102::q103::q104::q105::q106::q107::q108::q109::q110::q111::q112::q113::q114::q115::q116::q117::q118::q119::q120::q121::q122::q123::q124::q125::q126::q127::q128::q129::q130::q131::q132::q133::q134::q135::q136::q137::q138::q139::q140::q141::q142::q143::q144::q145::q146::q147::q148::q149::q150::q151::q152::q153::[]).toArray,defers:=[] } W:=by(
conv=>arg 2;whnf
go_wp2_with fail
refine (ae PLAH _ (ae HB)).mono ?_
rintro e w1 ⟨va,rfl,h1,hb⟩
replace HB:=af ((ae HB).trans' hb)
replace RX:=af ((ae RX).but hb)
have FA:=af (h1)
clear h1 hb PLAH
go_wp2_with fail
refine (ae TIH _ _ (ae HB) (ae FA)).mono ?_
rintro e w2 ⟨vt,rfl,h2,hb⟩
replace HB:=af ((ae HB).trans' hb)
replace RX:=af ((ae RX).but hb)
have LT:=af (h2)
clear h2 hb FA TIH
go_wp2_with fail
refine (ae LWH _ _ _ (ae HB) (ae LT) (fun h=>absurd h (by first | decide | exact hz))).mono ?_
rintro e w5 ⟨rfl,hb⟩
replace HB:=af ((ae HB).trans' hb)
clear hb LT LWH RX
go_wp2
go_ret
exact⟨rfl,ae HB⟩)
theorem qaa (w W:World) (aa:Option Addr) (na ca:Nat) (fs:List Rat) (vx:Value) (n:Int) (HB:Hid (But [] w W)) (RX:Hid (za W vx fs)) (evT:Value) (gl:List Rat) (hl:n<0) (PLAH:Hid (∀ W,But [] w W→Calls prog 19 #[.slice aa na ca] W fun e w'=>∃ v,e=.returned v∧au w' v fs∧But [] W w')) (TIH:Hid (∀ W va,But [] w W→au W va fs→Calls prog 25 #[va,.int .i64 n] W fun e w'=>∃ v,e=.returned (.tuple #[v,evT])∧jb w' 4 gl v∧But [] W w')) (LWH:Hid (∀ W v x,But [] w W→jb W 4 gl v→(4=0→za W x gl)→Calls prog 22 #[v,evT,x,.int .i64 4] W fun e w'=>e=.returned (.bool true)∧But [] W w')) (q1 q3 q4 q5 q8 q10 q11 q12 q13 q14 q15 q16 q17 q18 q19 q20 q21 q22 q23 q24 q25 q26 q27 q28 q29 q30 q31 q32 q33 q34 q35 q36 q37 q38 q39 q40 q41 q42 q43 q44 q45 q46 q47 q48 q49 q50 q51 q52 q53 q54 q55 q56 q57 q58 q59 q60 q61 q62 q63 q64 q65 q66 q67 q68 q69 q70 q71 q72 q73 q74 q75 q76 q77 q78 q79 q80 q81 q82 q83 q84 q85 q86 q87 q88 q89 q90 q91 q92 q93 q94 q95 q96 q97 q98 q99 q100 q101 q102 q103 q104 q105 q106 q107 q108 q109 q110 q111 q112 q113 q114 q115 q116 q117 q118 q119 q120 q121 q122 q123 q124 q125 q126 q127 q128 q129 q130 q131 q132 q133 q134 q135 q136 q137 q138 q139 q140 q141 q142 q143 q144 q145 q146 q147 q148 q149 q150 q151 q152 q153:Value) :
  Code.wp prog (zez 14 uy) (bodyPost prog Tryz.f4 fun e w'=>e=.returned (.bool true)∧But [] w w') { tmps:=(.slice aa na ca::q1::.int .i64 n::q3::q4::q5::.bool false::vx::q8::.int .i64 0::q10::q11::q12::q13::q14::q15::q16::q17::q18::q19::q20::q21::q22::q23::q24::q25::q26::q27::q28::q29::q30::q31::q32::q33::q34::q35::q36::q37::q38::q39::q40::q41::q42::q43::q44::q45::q46::q47::q48::q49::q50::q51::q52::q53::q54::q55::q56::q57::q58::q59::q60::q61::q62::q63::q64::q65::q66::q67::q68::q69::q70::q71::q72::q73::q74::q75::q76::q77::q78::q79::q80::q81::q82::q83::q84::q85::q86::q87::q88::q89::q90::q91::q92::q93::q94::q95::q96::q97::q98::q99::q100::q101::q102::q103::q104::q105::q106::q107::q108::q109::q110::q111::q112::q113::q114::q115::q116::q117::q118::q119::q120::q121::q122::q123::q124::q125::q126::q127::q128::q129::q130::q131::q132::q133::q134::q135::q136::q137::q138::q139::q140::q141::q142::q143::q144::q145::q146::q147::q148::q149::q150::q151::q152::q153::[]).toArray,defers:=[] } W:=by(
conv=>arg 2;whnf
go_wp2_with fail
refine (ae PLAH _ (ae HB)).mono ?_
rintro e w1 ⟨va,rfl,h1,hb⟩
replace HB:=af ((ae HB).trans' hb)
replace RX:=af ((ae RX).but hb)
have FA:=af (h1)
clear h1 hb PLAH
go_wp2_with fail
refine (ae TIH _ _ (ae HB) (ae FA)).mono ?_
rintro e w2 ⟨vt,rfl,h2,hb⟩
replace HB:=af ((ae HB).trans' hb)
replace RX:=af ((ae RX).but hb)
have LT:=af (h2)
clear h2 hb FA TIH
go_wp2_with fail
refine (ae LWH _ _ _ (ae HB) (ae LT) (fun h=>absurd h (by first | decide | exact hz))).mono ?_
rintro e w5 ⟨rfl,hb⟩
replace HB:=af ((ae HB).trans' hb)
clear hb LT LWH RX
go_wp2
go_ret
exact⟨rfl,ae HB⟩)
theorem zzz (w W:World) (aa:Option Addr) (na ca:Nat) (fs:List Rat) (vx:Value) (n:Int) (HB:Hid (But [] w W)) (RX:Hid (za W vx fs)) (evT:Value) (gl:List Rat) (h0:¬ n<0) (hl:200<n) (PLAH:Hid (∀ W,But [] w W→Calls prog 19 #[.slice aa na ca] W fun e w'=>∃ v,e=.returned v∧au w' v fs∧But [] W w')) (TIH:Hid (∀ W va,But [] w W→au W va fs→Calls prog 25 #[va,.int .i64 n] W fun e w'=>∃ v,e=.returned (.tuple #[v,evT])∧jb w' 4 gl v∧But [] W w')) (LWH:Hid (∀ W v x,But [] w W→jb W 4 gl v→(4=0→za W x gl)→Calls prog 22 #[v,evT,x,.int .i64 4] W fun e w'=>e=.returned (.bool true)∧But [] W w')) (q1 q3 q4 q5 q8 q10 q11 q12 q13 q14 q15 q16 q17 q18 q19 q20 q21 q22 q23 q24 q25 q26 q27 q28 q29 q30 q31 q32 q33 q34 q35 q36 q37 q38 q39 q40 q41 q42 q43 q44 q45 q46 q47 q48 q49 q50 q51 q52 q53 q54 q55 q56 q57 q58 q59 q60 q61 q62 q63 q64 q65 q66 q67 q68 q69 q70 q71 q72 q73 q74 q75 q76 q77 q78 q79 q80 q81 q82 q83 q84 q85 q86 q87 q88 q89 q90 q91 q92 q93 q94 q95 q96 q97 q98 q99 q100 q101 q102 q103 q104 q105 q106 q107 q108 q109 q110 q111 q112 q113 q114 q115 q116 q117 q118 q119 q120 q121 q122 q123 q124 q125 q126 q127 q128 q129 q130 q131 q132 q133 q134 q135 q136 q137 q138 q139 q140 q141 q142 q143 q144 q145 q146 q147 q148 q149 q150 q151 q152 q153:Value) :
  Code.wp prog (zez 14 uy) (bodyPost prog Tryz.f4 fun e w'=>e=.returned (.bool true)∧But [] w w') { tmps:=(.slice aa na ca::q1::.int .i64 n::q3::q4::q5::.bool false::vx::q8::.int .i64 0::q10::q11::q12::q13::q14::q15::q16::q17::q18::q19::q20::q21::q22::q23::q24::q25::q26::q27::q28::q29::q30::q31::q32::q33::q34::q35::q36::q37::q38::q39::q40::q41::q42::q43::q44::q45::q46::q47::q48::q49::q50::q51::q52::q53::q54::q55::q56::q57::q58::q59::q60::q61::q62::q63::q64::q65::q66::q67::q68::q69::q70::q71::q72::q73::q74::q75::q76::q77::q78::q79::q80::q81::q82::q83::q84::q85::q86::q87::q88::q89::q90::q91::q92::q93::q94::q95::q96::q97::q98::q99::q100::q101::q102::q103::q104::q105::q106::q107::q108::q109::q110::q111::q112::q113::q114::q115::q116::q117::q118::q119::q120::q121::q122::q123::q124::q125::q126::q127::q128::q129::q130::q131::q132::q133::q134::q135::q136::q137::q138::q139::q140::q141::q142::q143::q144::q145::q146::q147::q148::q149::q150::q151::q152::q153::[]).toArray,defers:=[] } W:=by(
conv=>arg 2;whnf
go_wp2_with fail
refine (ae PLAH _ (ae HB)).mono ?_
rintro e w1 ⟨va,rfl,h1,hb⟩
replace HB:=af ((ae HB).trans' hb)
replace RX:=af ((ae RX).but hb)
have FA:=af (h1)
clear h1 hb PLAH
go_wp2_with fail
refine (ae TIH _ _ (ae HB) (ae FA)).mono ?_
rintro e w2 ⟨vt,rfl,h2,hb⟩
replace HB:=af ((ae HB).trans' hb)
replace RX:=af ((ae RX).but hb)
have LT:=af (h2)
clear h2 hb FA TIH
go_wp2_with fail
refine (ae LWH _ _ _ (ae HB) (ae LT) (fun h=>absurd h (by first | decide | exact hz))).mono ?_
rintro e w5 ⟨rfl,hb⟩
replace HB:=af ((ae HB).trans' hb)
clear hb LT LWH RX
go_wp2
go_ret
exact⟨rfl,ae HB⟩)
theorem zzy (w W:World) (aa:Option Addr) (na ca:Nat) (fs:List Rat) (vx:Value) (n:Int) (HB:Hid (But [] w W)) (RX:Hid (za W vx fs)) (evT:Value) (gl:List Rat) (h0:¬ n<0) (h1:¬ 200<n) (n1:Nat) (m:Nat) (pn:Int) (e1:(n1:Int)-1=(m:Int)) (hn1:n1≤300) (HE2:Hid (n*(m:Int)=pn)) (HQ:Hid (0≤pn∧pn≤40000)) (hl:200<pn) (TRAH:Hid (∀ W v,za W v fs→Calls prog 20 #[v] W fun e w'=>∃ a c,e=.returned (.slice a n1 c)∧But [] W w')) (PLAH:Hid (∀ W,But [] w W→Calls prog 19 #[.slice aa na ca] W fun e w'=>∃ v,e=.returned v∧au w' v fs∧But [] W w')) (TIH:Hid (∀ W va,But [] w W→au W va fs→Calls prog 25 #[va,.int .i64 n] W fun e w'=>∃ v,e=.returned (.tuple #[v,evT])∧jb w' 4 gl v∧But [] W w')) (LWH:Hid (∀ W v x,But [] w W→jb W 4 gl v→(4=0→za W x gl)→Calls prog 22 #[v,evT,x,.int .i64 4] W fun e w'=>e=.returned (.bool true)∧But [] W w')) (q1 q3 q4 q5 q8 q10 q11 q12 q13 q14 q15 q16 q17 q18 q19 q20 q21 q22 q23 q24 q25 q26 q27 q28 q29 q30 q31 q32 q33 q34 q35 q36 q37 q38 q39 q40 q41 q42 q43 q44 q45 q46 q47 q48 q49 q50 q51 q52 q53 q54 q55 q56 q57 q58 q59 q60 q61 q62 q63 q64 q65 q66 q67 q68 q69 q70 q71 q72 q73 q74 q75 q76 q77 q78 q79 q80 q81 q82 q83 q84 q85 q86 q87 q88 q89 q90 q91 q92 q93 q94 q95 q96 q97 q98 q99 q100 q101 q102 q103 q104 q105 q106 q107 q108 q109 q110 q111 q112 q113 q114 q115 q116 q117 q118 q119 q120 q121 q122 q123 q124 q125 q126 q127 q128 q129 q130 q131 q132 q133 q134 q135 q136 q137 q138 q139 q140 q141 q142 q143 q144 q145 q146 q147 q148 q149 q150 q151 q152 q153:Value) :
  Code.wp prog (zez 14 uy) (bodyPost prog Tryz.f4 fun e w'=>e=.returned (.bool true)∧But [] w w') { tmps:=(.slice aa na ca::q1::.int .i64 n::q3::q4::q5::.bool false::vx::q8::.int .i64 0::q10::q11::q12::q13::q14::q15::q16::q17::q18::q19::q20::q21::q22::q23::q24::q25::q26::q27::q28::q29::q30::q31::q32::q33::q34::q35::q36::q37::q38::q39::q40::q41::q42::q43::q44::q45::q46::q47::q48::q49::q50::q51::q52::q53::q54::q55::q56::q57::q58::q59::q60::q61::q62::q63::q64::q65::q66::q67::q68::q69::q70::q71::q72::q73::q74::q75::q76::q77::q78::q79::q80::q81::q82::q83::q84::q85::q86::q87::q88::q89::q90::q91::q92::q93::q94::q95::q96::q97::q98::q99::q100::q101::q102::q103::q104::q105::q106::q107::q108::q109::q110::q111::q112::q113::q114::q115::q116::q117::q118::q119::q120::q121::q122::q123::q124::q125::q126::q127::q128::q129::q130::q131::q132::q133::q134::q135::q136::q137::q138::q139::q140::q141::q142::q143::q144::q145::q146::q147::q148::q149::q150::q151::q152::q153::[]).toArray,defers:=[] } W:=by(
conv=>arg 2;whnf
go_wp2_with fail
refine (ae TRAH _ _ (ae RX)).mono ?_
rintro e w0 ⟨ta,tc,rfl,hb⟩
replace HB:=af ((ae HB).trans' hb)
replace RX:=af ((ae RX).but hb)
clear hb TRAH
have e2:=ae HE2
have q0:=(ae HQ).1
have q1:=(ae HQ).2
clear HE2 HQ
go_wp2_with fail
refine (ae PLAH _ (ae HB)).mono ?_
rintro e w1 ⟨va,rfl,h1,hb⟩
replace HB:=af ((ae HB).trans' hb)
replace RX:=af ((ae RX).but hb)
have FA:=af (h1)
clear h1 hb PLAH
go_wp2_with fail
refine (ae TIH _ _ (ae HB) (ae FA)).mono ?_
rintro e w2 ⟨vt,rfl,h2,hb⟩
replace HB:=af ((ae HB).trans' hb)
replace RX:=af ((ae RX).but hb)
have LT:=af (h2)
clear h2 hb FA TIH
go_wp2_with fail
refine (ae LWH _ _ _ (ae HB) (ae LT) (fun h=>absurd h (by first | decide | exact hz))).mono ?_
rintro e w5 ⟨rfl,hb⟩
replace HB:=af ((ae HB).trans' hb)
clear hb LT LWH RX
go_wp2
go_ret
exact⟨rfl,ae HB⟩)
theorem qdg (a0:Option Addr) (c0:Nat) (k:Nat) (w W:World) (aa:Option Addr) (na ca:Nat) (fs:List Rat) (n:Int) (HB:Hid (But [] w W)) (RX:Hid (za W (.slice a0 k c0) fs)) (h0:¬ n<0) (h1:¬ 200<n) (n1:Nat) (m:Nat) (pn:Int) (e1:(n1:Int)-1=(m:Int)) (hn1:n1≤300) (HE2:Hid (n*(m:Int)=pn)) (HQ:Hid (0≤pn∧pn≤40000)) (hl:¬ 200<pn) (pl:Int) (HE3:Hid (n*(k:Int)=pl)) (HQ3:Hid (0≤pl∧pl≤100000)) (hb:80<pl) (TRAH:Hid (∀ W v,za W v fs→Calls prog 20 #[v] W fun e w'=>∃ a c,e=.returned (.slice a n1 c)∧But [] W w')) (q1 q3 q4 q5 q8 q10 q11 q12 q13 q14 q15 q16 q17 q18 q19 q20 q21 q22 q23 q24 q25 q26 q27 q28 q29 q30 q31 q32 q33 q34 q35 q36 q37 q38 q39 q40 q41 q42 q43 q44 q45 q46 q47 q48 q49 q50 q51 q52 q53 q54 q55 q56 q57 q58 q59 q60 q61 q62 q63 q64 q65 q66 q67 q68 q69 q70 q71 q72 q73 q74 q75 q76 q77 q78 q79 q80 q81 q82 q83 q84 q85 q86 q87 q88 q89 q90 q91 q92 q93 q94 q95 q96 q97 q98 q99 q100 q101 q102 q103 q104 q105 q106 q107 q108 q109 q110 q111 q112 q113 q114 q115 q116 q117 q118 q119 q120 q121 q122 q123 q124 q125 q126 q127 q128 q129 q130 q131 q132 q133 q134 q135 q136 q137 q138 q139 q140 q141 q142 q143 q144 q145 q146 q147 q148 q149 q150 q151 q152 q153:Value) :
  Code.wp prog (zez 14 uy) (bodyPost prog Tryz.f4 fun e w'=>e=.returned (.bool true)∧But [] w w') { tmps:=(.slice aa na ca::q1::.int .i64 n::q3::q4::q5::.bool false::.slice a0 k c0::q8::.int .i64 0::q10::q11::q12::q13::q14::q15::q16::q17::q18::q19::q20::q21::q22::q23::q24::q25::q26::q27::q28::q29::q30::q31::q32::q33::q34::q35::q36::q37::q38::q39::q40::q41::q42::q43::q44::q45::q46::q47::q48::q49::q50::q51::q52::q53::q54::q55::q56::q57::q58::q59::q60::q61::q62::q63::q64::q65::q66::q67::q68::q69::q70::q71::q72::q73::q74::q75::q76::q77::q78::q79::q80::q81::q82::q83::q84::q85::q86::q87::q88::q89::q90::q91::q92::q93::q94::q95::q96::q97::q98::q99::q100::q101::q102::q103::q104::q105::q106::q107::q108::q109::q110::q111::q112::q113::q114::q115::q116::q117::q118::q119::q120::q121::q122::q123::q124::q125::q126::q127::q128::q129::q130::q131::q132::q133::q134::q135::q136::q137::q138::q139::q140::q141::q142::q143::q144::q145::q146::q147::q148::q149::q150::q151::q152::q153::[]).toArray,defers:=[] } W:=by(
conv=>arg 2;whnf
go_wp2_with fail
refine (ae TRAH _ _ (ae RX)).mono ?_
rintro e w0 ⟨ta,tc,rfl,hb⟩
replace HB:=af ((ae HB).trans' hb)
replace RX:=af ((ae RX).but hb)
clear hb TRAH
have e2:=ae HE2
have q0:=(ae HQ).1
have q1:=(ae HQ).2
clear HE2 HQ
have e3:=ae HE3
have q2:=(ae HQ3).1
have q3:=(ae HQ3).2
clear HE3 HQ3
clear RX
go_wp2
go_ret
exact⟨rfl,ae HB⟩)
theorem qie (a0:Option Addr) (c0:Nat) (k:Nat) (w W:World) (aa:Option Addr) (na ca:Nat) (fs:List Rat) (n:Int) (HB:Hid (But [] w W)) (RX:Hid (za W (.slice a0 k c0) fs)) (h0:¬ n<0) (h1:¬ 200<n) (n1:Nat) (m:Nat) (pn:Int) (e1:(n1:Int)-1=(m:Int)) (hn1:n1≤300) (HE2:Hid (n*(m:Int)=pn)) (HQ:Hid (0≤pn∧pn≤40000)) (hl:¬ 200<pn) (pl:Int) (HE3:Hid (n*(k:Int)=pl)) (HQ3:Hid (0≤pl∧pl≤100000)) (hb:¬ 80<pl) (gl:List Rat) (TRAH:Hid (∀ W v,za W v fs→Calls prog 20 #[v] W fun e w'=>∃ a c,e=.returned (.slice a n1 c)∧But [] W w')) (PLAH:Hid (∀ W,But [] w W→Calls prog 19 #[.slice aa na ca] W fun e w'=>∃ v,e=.returned v∧au w' v fs∧But [] W w')) (TIH:Hid (∀ W va,But [] w W→au W va fs→Calls prog 25 #[va,.int .i64 n] W fun e w'=>∃ v,e=.returned (.tuple #[v,.nilIface])∧jb w' 0 gl v∧But [] W w')) (LWH:Hid (∀ W v x,But [] w W→jb W 0 gl v→(0=0→za W x gl)→Calls prog 22 #[v,.nilIface,x,.int .i64 0] W fun e w'=>e=.returned (.bool true)∧But [] W w')) (TLH:Hid (∀ W v,za W v fs→Calls prog 26 #[v,.int .i64 n] W fun e w'=>∃ v',e=.returned v'∧za w' v' gl∧But [] W w')) (TRLH:Hid (∀ W v,za W v gl→Calls prog 20 #[v] W fun e w'=>∃ v',e=.returned v'∧za w' v' gl∧But [] W w')) (q1 q3 q4 q5 q8 q10 q11 q12 q13 q14 q15 q16 q17 q18 q19 q20 q21 q22 q23 q24 q25 q26 q27 q28 q29 q30 q31 q32 q33 q34 q35 q36 q37 q38 q39 q40 q41 q42 q43 q44 q45 q46 q47 q48 q49 q50 q51 q52 q53 q54 q55 q56 q57 q58 q59 q60 q61 q62 q63 q64 q65 q66 q67 q68 q69 q70 q71 q72 q73 q74 q75 q76 q77 q78 q79 q80 q81 q82 q83 q84 q85 q86 q87 q88 q89 q90 q91 q92 q93 q94 q95 q96 q97 q98 q99 q100 q101 q102 q103 q104 q105 q106 q107 q108 q109 q110 q111 q112 q113 q114 q115 q116 q117 q118 q119 q120 q121 q122 q123 q124 q125 q126 q127 q128 q129 q130 q131 q132 q133 q134 q135 q136 q137 q138 q139 q140 q141 q142 q143 q144 q145 q146 q147 q148 q149 q150 q151 q152 q153:Value) :
  Code.wp prog (zez 14 uy) (bodyPost prog Tryz.f4 fun e w'=>e=.returned (.bool true)∧But [] w w') { tmps:=(.slice aa na ca::q1::.int .i64 n::q3::q4::q5::.bool false::.slice a0 k c0::q8::.int .i64 0::q10::q11::q12::q13::q14::q15::q16::q17::q18::q19::q20::q21::q22::q23::q24::q25::q26::q27::q28::q29::q30::q31::q32::q33::q34::q35::q36::q37::q38::q39::q40::q41::q42::q43::q44::q45::q46::q47::q48::q49::q50::q51::q52::q53::q54::q55::q56::q57::q58::q59::q60::q61::q62::q63::q64::q65::q66::q67::q68::q69::q70::q71::q72::q73::q74::q75::q76::q77::q78::q79::q80::q81::q82::q83::q84::q85::q86::q87::q88::q89::q90::q91::q92::q93::q94::q95::q96::q97::q98::q99::q100::q101::q102::q103::q104::q105::q106::q107::q108::q109::q110::q111::q112::q113::q114::q115::q116::q117::q118::q119::q120::q121::q122::q123::q124::q125::q126::q127::q128::q129::q130::q131::q132::q133::q134::q135::q136::q137::q138::q139::q140::q141::q142::q143::q144::q145::q146::q147::q148::q149::q150::q151::q152::q153::[]).toArray,defers:=[] } W:=by(
conv=>arg 2;whnf
go_wp2_with fail
refine (ae TRAH _ _ (ae RX)).mono ?_
rintro e w0 ⟨ta,tc,rfl,hb⟩
replace HB:=af ((ae HB).trans' hb)
replace RX:=af ((ae RX).but hb)
clear hb TRAH
have e2:=ae HE2
have q0:=(ae HQ).1
have q1:=(ae HQ).2
clear HE2 HQ
have e3:=ae HE3
have q2:=(ae HQ3).1
have q3:=(ae HQ3).2
clear HE3 HQ3
go_wp2_with fail
refine (ae PLAH _ (ae HB)).mono ?_
rintro e w1 ⟨va,rfl,h1,hb⟩
replace HB:=af ((ae HB).trans' hb)
replace RX:=af ((ae RX).but hb)
have FA:=af (h1)
clear h1 hb PLAH
go_wp2_with fail
refine (ae TIH _ _ (ae HB) (ae FA)).mono ?_
rintro e w2 ⟨vt,rfl,h2,hb⟩
replace HB:=af ((ae HB).trans' hb)
replace RX:=af ((ae RX).but hb)
have LT:=af (h2)
clear h2 hb FA TIH
go_wp2_with fail
refine (ae TLH _ _ (ae RX)).mono ?_
rintro e w3 ⟨vl,rfl,h3,hb⟩
replace HB:=af ((ae HB).trans' hb)
replace LT:=af ((ae LT).but hb)
have RL:=af (h3)
clear h3 hb RX TLH
go_wp2_with fail
refine (ae TRLH _ _ (ae RL)).mono ?_
rintro e w4 ⟨vm,rfl,h4,hb⟩
replace HB:=af ((ae HB).trans' hb)
replace LT:=af ((ae LT).but hb)
have RM:=af (h4)
clear h4 hb RL TRLH
go_wp2_with fail
refine (ae LWH _ _ _ (ae HB) (ae LT) (fun _=>ae RM)).mono ?_
rintro e w5 ⟨rfl,hb⟩
replace HB:=af ((ae HB).trans' hb)
clear hb LT RM LWH
go_wp2
go_ret
exact⟨rfl,ae HB⟩)
end Go.Proofs.YtpmjeclpkahkmaaGreatDoor
