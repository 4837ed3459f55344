/- The law ClaimsSay from its last test on; -/
import Derived.Test.YtagmkkiagjmimaaGreatDoorYK9
import Derived.Test.YtagmkkiagjmimaaGreatDoorYKQ
import Derived.Test.YtagmkkiagjmimaaGreatDoorYKYc
import Derived.Test.YtagmkkiagjmimaaGreatDoorYRLo
namespace Go.Proofs.YtagmkkiagjmimaaGreatDoor
open Go.Proofs.Tryz
open Go.RowKit
set_option maxHeartbeats 64000000
set_option maxRecDepth 100000
set_option linter.unusedVariables false
def zcl (w:World) (z:Int) (gl:List Rat) (v:Value):Prop:=(z=0∧au w v gl)∨(z≠0∧v=.slice none 0 0)
theorem zcl.but {w w':World} {z:Int} {gl:List Rat} {v:Value} (h:zcl w z gl v) (hb:But [] w w'):zcl w' z gl v:=h.imp (fun ⟨a,b⟩=>⟨a,b.but hb⟩) id
def qbm (w:World) (g:Nat) (a b:Int):Prop:=w.cell? ⟨g,0,none⟩=some (.int .i64 a)∧w.cell? ⟨g,1,none⟩=some (.int .i64 b)
theorem qbm.but {w w':World} {g:Nat} {a b:Int} (h:qbm w g a b) (hb:But [] w w'):qbm w' g a b:=⟨hb.ag h.1 (by simp),hb.ag h.2 (by simp)⟩
def P4z (w:World) (g:Nat) (s:Bool) (x y:Int) (p:Option Addr):Prop:=P4 w g s x y p∧∀ j,w.frozen? ⟨g,j,none⟩=false
theorem P4z.but {w w':World} {g:Nat} {s:Bool} {x y:Int} {p:Option Addr} {l:List Nat} (h:P4z w g s x y p) (hb:But l w w') (hn:g ∉ l):P4z w' g s x y p :=
 ⟨h.1.but hb hn,fun j=>by
  have hl:g<w.heap.size:=ai h.1.1
  exact (hb.frozen (p:=⟨g,j,none⟩) hl hn).trans (h.2 j)⟩
def zrt:Nat→Code→Code
 | 0,c=>c
 | n+1,.seq _ b=>zrt n b
 | _+1,c=>c
noncomputable def zli:Code:=(Tryz.f7.body).getD .skip
theorem zxm (w W:World) (fs:List Rat) (vr vl:Value) (HB:Hid (But [] w W)) (RR:Hid (zn W vr fs)) (FF:Hid (au W vl fs)) (fo wd5 u5 v5 sg cc:Int) (evL:Value) (gl:List Rat) (z3 z4:Int) (hz:z3=0∨(z3==0)=false) (HZ4:Hid (z4=if z3=0∧(wd5<0∨200<wd5) then 2 else z3)) (LAH:Hid (∀ W v,But [] w W→au W v fs→Calls prog 51 #[v,.int .i64 fo,.int .i64 wd5] W fun e w'=>∃ v,e=.returned (.tuple #[v,evL])∧zcl w' z4 gl v∧But [] W w')) (RLH:Hid (z4=0→∀ W v,zn W v fs→Calls prog 52 #[v,.int .i64 fo,.int .i64 wd5] W fun e w'=>∃ v,e=.returned v∧zn w' v gl∧But [] W w')) (LWH:Hid (∀ W v x,But [] w W→zcl W z4 gl v→(z4=0→zn W x gl)→Calls prog 53 #[v,evL,x,.int .i64 z4] W fun e w'=>e=.returned (.bool true)∧But [] W w')) (q0 q1 q4 q5 q6 q7 q8 q11 q12 q13 q14 q15 q16 q17 q18 q20 q21 q22 q23 q24 q25 q26 q27 q28 q29 q30 q31 q32 q33 q34 q35 q36 q37 q38 q39 q40 q41 q42 q43 q44 q45 q46 q47 q48 q49 q50 q51 q52 q53 q54 q55 q56 q57 q58 q59 q60 q61 q62 q63 q64 q65 q66 q67 q68 q69 q70 q71 q72 q73 q74 q75 q76 q77 q78 q79 q80 q81 q82 q83 q84 q85 q86 q87 q88 q89 q90 q91 q92 q93 q94 q95 q96 q97 q98 q99 q100 q101 q102 q103 q104 q105 q106 q107 q108 q109 q110 q111 q112 q113 q114 q115 q116 q117 q118 q119 q120 q121 q122 q123 q124 q125 q126 q127 q128 q129 q130 q131 q132 q133 q134 q135 q136 q137 q138 q139 q140 q141 q142 q143 q144 q145 q146 q147 q148 q149 q150 q151 q152 q153 q154 q155 q156 q157 q158 q159 q160 q161 q162 q163 q164 q165 q166 q167 q168 q169 q170 q171 q172 q173 q174 q175 q176 q177 q178 q179 q180 q181 q182 q183 q184 q185 q186 q187 q188 q189 q190 q191 q192 q193 q194 q195 q196 q197 q198 q199 q200 q201 q202 q203 q204 q205 q206 q207 q208:Value) :
   Code.wp prog (zrt 26 zli) (bodyPost prog Tryz.f7 fun e w'=>e=.returned (.bool true)∧But [] w w') { tmps:=(q0::q1::.int .i64 fo::.int .i64 wd5::q4::q5::q6::q7::q8::vl::vr::q11::q12::q13::q14::q15::q16::q17::q18::.int .i64 z3::q20::q21::q22::q23::q24::q25::q26::q27::q28::q29::q30::q31::q32::q33::q34::q35::q36::q37::q38::q39::q40::q41::q42::q43::q44::q45::q46::q47::q48::q49::q50::q51::q52::q53::q54::q55::q56::q57::q58::q59::q60::q61::q62::q63::q64::q65::q66::q67::q68::q69::q70::q71::q72::q73::q74::q75::q76::q77::q78::q79::q80::q81::q82::q83::q84::q85::q86::q87::q88::q89::q90::q91::q92::q93::q94::q95::q96::q97::q98::q99::q100::q101::q102::q103::q104::q105::q106::q107::q108::q109::q110::q111::q112::q113::q114::q115::q116::q117::q118::q119::q120::q121::q122::q123::q124::q125::q126::q127::q128::q129::q130::q131::q132::q133::q134::q135::q136::q137::q138::q139::q140::q141::q142::q143::q144::q145::q146::q147::q148::q149::q150::q151::q152::q153::q154::q155::q156::q157::q158::q159::q160::q161::q162::q163::q164::q165::q166::q167::q168::q169::q170::q171::q172::q173::q174::q175::q176::q177::q178::q179::q180::q181::q182::q183::q184::q185::q186::q187::q188::q189::q190::q191::q192::q193::q194::q195::q196::q197::q198::q199::q200::q201::q202::q203::q204::q205::q206::q207::q208::[]).toArray,defers:=[] } W:=by(
 conv=>arg 2;whnf
 rcases hz with rfl | hz
 ·(
 by_cases h1:wd5<0
 ·(
 obtain rfl:z4=2:=by rw[ae HZ4,if_pos ⟨rfl,.inl h1⟩]
 clear HZ4 
 go_wp2_with fail
 refine (ae LAH _ _ (ae HB) (ae FF)).mono ?_
 rintro e w1 ⟨v1,rfl,hl,hb⟩
 replace HB:=af ((ae HB).trans' hb)
 replace RR:=af ((ae RR).but hb)
 have HL:=af (hl)
 clear hl hb FF LAH
 go_wp2_with fail
 refine (ae LWH _ _ (.slice none 0 0) (ae HB) (ae HL) (fun h=>absurd h (by first | decide | exact hne))).mono ?_
 rintro e w3 ⟨rfl,hb⟩
 replace HB:=af ((ae HB).trans' hb)
 clear hb LWH HL RR RLH
 go_wp2
 go_ret
 exact⟨rfl,ae HB⟩)
 ·(
 by_cases h2:wd5 > 200
 ·(
 obtain rfl:z4=2:=by rw[ae HZ4,if_pos ⟨rfl,.inr h2⟩]
 clear HZ4
 go_wp2_with fail
 refine (ae LAH _ _ (ae HB) (ae FF)).mono ?_
 rintro e w1 ⟨v1,rfl,hl,hb⟩
 replace HB:=af ((ae HB).trans' hb)
 replace RR:=af ((ae RR).but hb)
 have HL:=af (hl)
 clear hl hb FF LAH
 go_wp2_with fail
 refine (ae LWH _ _ (.slice none 0 0) (ae HB) (ae HL) (fun h=>absurd h (by first | decide | exact hne))).mono ?_
 rintro e w3 ⟨rfl,hb⟩
 replace HB:=af ((ae HB).trans' hb)
 clear hb LWH HL RR RLH
 go_wp2
 go_ret
 exact⟨rfl,ae HB⟩)
 ·(
 obtain rfl:z4=0:=by rw[ae HZ4,if_neg (fun h=>h.2.elim h1 h2)]
 clear HZ4
 go_wp2_with fail
 refine (ae LAH _ _ (ae HB) (ae FF)).mono ?_
 rintro e w1 ⟨v1,rfl,hl,hb⟩
 replace HB:=af ((ae HB).trans' hb)
 replace RR:=af ((ae RR).but hb)
 have HL:=af (hl)
 clear hl hb FF LAH
 go_wp2_with fail
 refine (ae RLH (by simp) _ _ (ae RR)).mono ?_
 rintro e w2 ⟨v2,rfl,hr,hb⟩
 replace HB:=af ((ae HB).trans' hb)
 replace HL:=af ((ae HL).but hb)
 have H2:=af (hr)
 clear hr hb RLH RR
 go_wp2_with fail
 refine (ae LWH _ _ _ (ae HB) (ae HL) (fun _=>ae H2)).mono ?_
 rintro e w3 ⟨rfl,hb⟩
 replace HB:=af ((ae HB).trans' hb)
 clear hb LWH HL H2
 go_wp2
 go_ret
 exact⟨rfl,ae HB⟩)))
 ·(
 have hne:¬ z3=0:=fun h=>by rw[h] at hz;simp at hz
 obtain rfl:z4=z3:=by rw[ae HZ4,if_neg (fun h=>hne h.1)]
 clear HZ4 
 go_wp2_with fail
 refine (ae LAH _ _ (ae HB) (ae FF)).mono ?_
 rintro e w1 ⟨v1,rfl,hl,hb⟩
 replace HB:=af ((ae HB).trans' hb)
 replace RR:=af ((ae RR).but hb)
 have HL:=af (hl)
 clear hl hb FF LAH
 go_wp2_with fail
 refine (ae LWH _ _ (.slice none 0 0) (ae HB) (ae HL) (fun h=>absurd h (by first | decide | exact hne))).mono ?_
 rintro e w3 ⟨rfl,hb⟩
 replace HB:=af ((ae HB).trans' hb)
 clear hb LWH HL RR RLH
 go_wp2
 go_ret
 exact⟨rfl,ae HB⟩))
theorem zxn (w U W:World) (fs:List Rat) (vr vl:Value) (z:Int) (HU:Hid (But [] w U)) (HB:Hid (But [] U W)) (RR:Hid (zn U vr fs)) (FF:Hid (au U vl fs)) (hz:z=0∨(z==0)=false) (fo wd5 u5 v5 sg cc:Int) (b16 g23:Nat) (s0:Bool) (x0 y0:Int) (p0:Option Addr) (K0:Hid (P4z W g23 s0 x0 y0 p0)) (HG:Hid (U.heap.size≤g23)) (evS evL:Value) (fst:Rat) (gl:List Rat) (z3 z4:Int) (HZ3:Hid (z3=if z=0∧(fo<0∨200<fo) then 2 else z)) (HZ4:Hid (z4=if z3=0∧(wd5<0∨200<wd5) then 2 else z3)) (SOH:Hid (∀ W v,But [] w W→au W v fs→Calls prog 49 #[v,.int .i64 fo] W fun e w'=>∃ t:FZ,e=.returned (.tuple #[.agg #[.bool t.1,.int .u64 t.2.1,.int .u64 t.2.2.1,.pointer t.2.2.2],evS])∧aq w' (.agg #[.bool t.1,.int .u64 t.2.1,.int .u64 t.2.2.1,.pointer t.2.2.2]) fst∧But [] W w')) (RSH:Hid (z3=0→∀ W v,zn W v fs→Calls prog 50 #[v,.int .i64 fo] W fun e w'=>∃ b,e=.returned (.pointer (some ⟨b,0,none⟩))∧ze w' b fst∧But [] W w')) (ON4H:Hid (∀ W v x,But [] w W→aq W v fst→(z3=0→ze W x fst)→Calls prog 21 #[v,evS,.pointer (some ⟨x,0,none⟩),.int .i64 z3] W fun e w'=>e=.returned (.bool true)∧But [] W w')) (LAH:Hid (∀ W v,But [] w W→au W v fs→Calls prog 51 #[v,.int .i64 fo,.int .i64 wd5] W fun e w'=>∃ v,e=.returned (.tuple #[v,evL])∧zcl w' z4 gl v∧But [] W w')) (RLH:Hid (z4=0→∀ W v,zn W v fs→Calls prog 52 #[v,.int .i64 fo,.int .i64 wd5] W fun e w'=>∃ v,e=.returned v∧zn w' v gl∧But [] W w')) (LWH:Hid (∀ W v x,But [] w W→zcl W z4 gl v→(z4=0→zn W x gl)→Calls prog 53 #[v,evL,x,.int .i64 z4] W fun e w'=>e=.returned (.bool true)∧But [] W w')) (q0 q1 q4 q5 q6 q7 q12 q13 q14 q15 q17 q18 q19 q20 q21 q22 q24 q25 q26 q27 q28 q29 q30 q31 q32 q33 q34 q35 q36 q37 q38 q39 q40 q41 q42 q43 q44 q45 q46 q47 q48 q49 q50 q51 q52 q53 q54 q55 q56 q57 q58 q59 q60 q61 q62 q63 q64 q65 q66 q67 q68 q69 q70 q71 q72 q73 q74 q75 q76 q77 q78 q79 q80 q81 q82 q83 q84 q85 q86 q87 q88 q89 q90 q91 q92 q93 q94 q95 q96 q97 q98 q99 q100 q101 q102 q103 q104 q105 q106 q107 q108 q109 q110 q111 q112 q113 q114 q115 q116 q117 q118 q119 q120 q121 q122 q123 q124 q125 q126 q127 q128 q129 q130 q131 q132 q133 q134 q135 q136 q137 q138 q139 q140 q141 q142 q143 q144 q145 q146 q147 q148 q149 q150 q151 q152 q153 q154 q155 q156 q157 q158 q159 q160 q161 q162 q163 q164 q165 q166 q167 q168 q169 q170 q171 q172 q173 q174 q175 q176 q177 q178 q179 q180 q181 q182 q183 q184 q185 q186 q187 q188 q189 q190 q191 q192 q193 q194 q195 q196 q197 q198 q199 q200 q201 q202 q203 q204 q205 q206 q207 q208:Value) :
   Code.wp prog (zrt 21 zli) (bodyPost prog Tryz.f7 fun e w'=>e=.returned (.bool true)∧But [] w w') { tmps:=(q0::q1::.int .i64 fo::.int .i64 wd5::q4::q5::q6::q7::.bool false::vl::vr::.int .i64 z::q12::q13::q14::q15::.pointer (some ⟨b16,0,none⟩)::q17::q18::q19::q20::q21::q22::.pointer (some ⟨g23,0,none⟩)::q24::q25::q26::q27::q28::q29::q30::q31::q32::q33::q34::q35::q36::q37::q38::q39::q40::q41::q42::q43::q44::q45::q46::q47::q48::q49::q50::q51::q52::q53::q54::q55::q56::q57::q58::q59::q60::q61::q62::q63::q64::q65::q66::q67::q68::q69::q70::q71::q72::q73::q74::q75::q76::q77::q78::q79::q80::q81::q82::q83::q84::q85::q86::q87::q88::q89::q90::q91::q92::q93::q94::q95::q96::q97::q98::q99::q100::q101::q102::q103::q104::q105::q106::q107::q108::q109::q110::q111::q112::q113::q114::q115::q116::q117::q118::q119::q120::q121::q122::q123::q124::q125::q126::q127::q128::q129::q130::q131::q132::q133::q134::q135::q136::q137::q138::q139::q140::q141::q142::q143::q144::q145::q146::q147::q148::q149::q150::q151::q152::q153::q154::q155::q156::q157::q158::q159::q160::q161::q162::q163::q164::q165::q166::q167::q168::q169::q170::q171::q172::q173::q174::q175::q176::q177::q178::q179::q180::q181::q182::q183::q184::q185::q186::q187::q188::q189::q190::q191::q192::q193::q194::q195::q196::q197::q198::q199::q200::q201::q202::q203::q204::q205::q206::q207::q208::[]).toArray,defers:=[] } W:=by(
 conv=>arg 2;whnf
 rcases hz with rfl | hz
 ·(
 by_cases h1:fo<0
 ·(
 obtain rfl:z3=2:=by rw[ae HZ3,if_pos ⟨rfl,.inl h1⟩]
 clear HZ3 
 go_wp2_with fail
 refine (ae SOH _ _ ((ae HU).trans' (ae HB)) ((ae FF).but (ae HB))).mono ?_
 rintro e w1 ⟨⟨s1,x1,y1,p1⟩,rfl,hf,hb⟩
 dsimp only
 have K1:=(ae K0).but hb (by simp)
 obtain⟨⟨k0,k1,k2,k3⟩,kz⟩:=K1
 have hP:=ax w1 g23 s1 x1 y1 p1
 have KN:=af (j6 w1 g23 s1 x1 y1 p1 ⟨k0,k1,k2,k3⟩)
 have HF:=af (hf.over k0 hP)
 replace HB:=af (((ae HB).trans' hb).trans hP (fun x hx=>by simp at hx;subst hx;exact .inr (ae HG)))
 clear hf hb hP SOH K0 HG
 go_upto_if 171 with fail
 change Code.wp _ _ _ _ (qw w1 g23 s1 x1 y1 p1)
 generalize qw w1 g23 s1 x1 y1 p1=V1 at *
 clear k0 k1 k2 k3 kz
 obtain⟨m0,m1,m2,m3⟩:=ae KN
 go_wp2_with fail
 refine (ae ON4H _ _ b16 ((ae HU).trans' (ae HB)) (ae HF) (fun h=>absurd h (by first | decide | exact hne))).mono ?_
 rintro e w3 ⟨rfl,hb⟩
 replace HB:=af ((ae HB).trans' hb)
 clear hb ON4H HF KN m0 m1 m2 m3 RSH
 go_upto_if 180 with fail
 go_cut [8] (fun s8 wx=>s8=.bool false∧wx=w3)
 case first =>(
 go_wp2_with fail
 go_meet
 exact⟨rfl,rfl⟩)
 case rest =>(
 obtain⟨rfl,rfl⟩:=hcut
 rename ∀ a w,Code.wp _ _ _ a w→_=>hK
 refine hK _ _ ?_
 exact zxm w _ fs vr vl (af ((ae HU).trans' (ae HB))) (af ((ae RR).but (ae HB))) (af ((ae FF).but (ae HB))) fo wd5 u5 v5 sg cc evL gl _ z4 (by first | exact .inr rfl | exact .inr (by decide) | exact .inr hz) (by first | exact HZ4 | exact af (by simpa using ae HZ4)) LAH RLH LWH _ _ _ _ _ _ _ _ _ _ _ _ _ _ _ _ _ _ _ _ _ _ _ _ _ _ _ _ _ _ _ _ _ _ _ _ _ _ _ _ _ _ _ _ _ _ _ _ _ _ _ _ _ _ _ _ _ _ _ _ _ _ _ _ _ _ _ _ _ _ _ _ _ _ _ _ _ _ _ _ _ _ _ _ _ _ _ _ _ _ _ _ _ _ _ _ _ _ _ _ _ _ _ _ _ _ _ _ _ _ _ _ _ _ _ _ _ _ _ _ _ _ _ _ _ _ _ _ _ _ _ _ _ _ _ _ _ _ _ _ _ _ _ _ _ _ _ _ _ _ _ _ _ _ _ _ _ _ _ _ _ _ _ _ _ _ _ _ _ _ _ _ _ _ _ _ _ _ _ _ _ _ _ _ _ _ _ _ _ _ _ _ _ _ _ _ _ _ _ _ _ _ _ _))
 ·(
 by_cases h2:fo > 200
 ·(
 obtain rfl:z3=2:=by rw[ae HZ3,if_pos ⟨rfl,.inr h2⟩]
 clear HZ3
 go_wp2_with fail
 refine (ae SOH _ _ ((ae HU).trans' (ae HB)) ((ae FF).but (ae HB))).mono ?_
 rintro e w1 ⟨⟨s1,x1,y1,p1⟩,rfl,hf,hb⟩
 dsimp only
 have K1:=(ae K0).but hb (by simp)
 obtain⟨⟨k0,k1,k2,k3⟩,kz⟩:=K1
 have hP:=ax w1 g23 s1 x1 y1 p1
 have KN:=af (j6 w1 g23 s1 x1 y1 p1 ⟨k0,k1,k2,k3⟩)
 have HF:=af (hf.over k0 hP)
 replace HB:=af (((ae HB).trans' hb).trans hP (fun x hx=>by simp at hx;subst hx;exact .inr (ae HG)))
 clear hf hb hP SOH K0 HG
 go_upto_if 171 with fail
 change Code.wp _ _ _ _ (qw w1 g23 s1 x1 y1 p1)
 generalize qw w1 g23 s1 x1 y1 p1=V1 at *
 clear k0 k1 k2 k3 kz
 obtain⟨m0,m1,m2,m3⟩:=ae KN
 go_wp2_with fail
 refine (ae ON4H _ _ b16 ((ae HU).trans' (ae HB)) (ae HF) (fun h=>absurd h (by first | decide | exact hne))).mono ?_
 rintro e w3 ⟨rfl,hb⟩
 replace HB:=af ((ae HB).trans' hb)
 clear hb ON4H HF KN m0 m1 m2 m3 RSH
 go_upto_if 180 with fail
 go_cut [8] (fun s8 wx=>s8=.bool false∧wx=w3)
 case first =>(
 go_wp2_with fail
 go_meet
 exact⟨rfl,rfl⟩)
 case rest =>(
 obtain⟨rfl,rfl⟩:=hcut
 rename ∀ a w,Code.wp _ _ _ a w→_=>hK
 refine hK _ _ ?_
 exact zxm w _ fs vr vl (af ((ae HU).trans' (ae HB))) (af ((ae RR).but (ae HB))) (af ((ae FF).but (ae HB))) fo wd5 u5 v5 sg cc evL gl _ z4 (by first | exact .inr rfl | exact .inr (by decide) | exact .inr hz) (by first | exact HZ4 | exact af (by simpa using ae HZ4)) LAH RLH LWH _ _ _ _ _ _ _ _ _ _ _ _ _ _ _ _ _ _ _ _ _ _ _ _ _ _ _ _ _ _ _ _ _ _ _ _ _ _ _ _ _ _ _ _ _ _ _ _ _ _ _ _ _ _ _ _ _ _ _ _ _ _ _ _ _ _ _ _ _ _ _ _ _ _ _ _ _ _ _ _ _ _ _ _ _ _ _ _ _ _ _ _ _ _ _ _ _ _ _ _ _ _ _ _ _ _ _ _ _ _ _ _ _ _ _ _ _ _ _ _ _ _ _ _ _ _ _ _ _ _ _ _ _ _ _ _ _ _ _ _ _ _ _ _ _ _ _ _ _ _ _ _ _ _ _ _ _ _ _ _ _ _ _ _ _ _ _ _ _ _ _ _ _ _ _ _ _ _ _ _ _ _ _ _ _ _ _ _ _ _ _ _ _ _ _ _ _ _ _ _ _ _ _ _))
 ·(
 obtain rfl:z3=0:=by rw[ae HZ3,if_neg (fun h=>h.2.elim h1 h2)]
 clear HZ3
 go_wp2_with fail
 refine (ae SOH _ _ ((ae HU).trans' (ae HB)) ((ae FF).but (ae HB))).mono ?_
 rintro e w1 ⟨⟨s1,x1,y1,p1⟩,rfl,hf,hb⟩
 dsimp only
 have K1:=(ae K0).but hb (by simp)
 obtain⟨⟨k0,k1,k2,k3⟩,kz⟩:=K1
 have hP:=ax w1 g23 s1 x1 y1 p1
 have KN:=af (j6 w1 g23 s1 x1 y1 p1 ⟨k0,k1,k2,k3⟩)
 have HF:=af (hf.over k0 hP)
 replace HB:=af (((ae HB).trans' hb).trans hP (fun x hx=>by simp at hx;subst hx;exact .inr (ae HG)))
 clear hf hb hP SOH K0 HG
 go_upto_if 171 with fail
 change Code.wp _ _ _ _ (qw w1 g23 s1 x1 y1 p1)
 generalize qw w1 g23 s1 x1 y1 p1=V1 at *
 clear k0 k1 k2 k3 kz
 go_wp2_with fail
 refine (ae RSH (by simp) _ _ ((ae RR).but (ae HB))).mono ?_
 rintro e w2 ⟨b2,rfl,h2,hb⟩
 replace HB:=af ((ae HB).trans' hb)
 replace HF:=af ((ae HF).but hb)
 replace KN:=af ((ae KN).but hb (by simp))
 have H2:=af (h2)
 clear h2 hb RSH
 obtain⟨m0,m1,m2,m3⟩:=ae KN
 go_wp2_with fail
 refine (ae ON4H _ _ b2 ((ae HU).trans' (ae HB)) (ae HF) (fun _=>ae H2)).mono ?_
 rintro e w3 ⟨rfl,hb⟩
 replace HB:=af ((ae HB).trans' hb)
 clear hb ON4H HF KN m0 m1 m2 m3 H2
 go_upto_if 180 with fail
 go_cut [8] (fun s8 wx=>s8=.bool false∧wx=w3)
 case first =>(
 go_wp2_with fail
 go_meet
 exact⟨rfl,rfl⟩)
 case rest =>(
 obtain⟨rfl,rfl⟩:=hcut
 rename ∀ a w,Code.wp _ _ _ a w→_=>hK
 refine hK _ _ ?_
 exact zxm w _ fs vr vl (af ((ae HU).trans' (ae HB))) (af ((ae RR).but (ae HB))) (af ((ae FF).but (ae HB))) fo wd5 u5 v5 sg cc evL gl _ z4 (.inl rfl) (by first | exact HZ4 | exact af (by simpa using ae HZ4)) LAH RLH LWH _ _ _ _ _ _ _ _ _ _ _ _ _ _ _ _ _ _ _ _ _ _ _ _ _ _ _ _ _ _ _ _ _ _ _ _ _ _ _ _ _ _ _ _ _ _ _ _ _ _ _ _ _ _ _ _ _ _ _ _ _ _ _ _ _ _ _ _ _ _ _ _ _ _ _ _ _ _ _ _ _ _ _ _ _ _ _ _ _ _ _ _ _ _ _ _ _ _ _ _ _ _ _ _ _ _ _ _ _ _ _ _ _ _ _ _ _ _ _ _ _ _ _ _ _ _ _ _ _ _ _ _ _ _ _ _ _ _ _ _ _ _ _ _ _ _ _ _ _ _ _ _ _ _ _ _ _ _ _ _ _ _ _ _ _ _ _ _ _ _ _ _ _ _ _ _ _ _ _ _ _ _ _ _ _ _ _ _ _ _ _ _ _ _ _ _ _ _ _ _ _ _ _ _))))
 ·(
 have hne:¬ z=0:=fun h=>by rw[h] at hz;simp at hz
 obtain rfl:z3=z:=by rw[ae HZ3,if_neg (fun h=>hne h.1)]
 clear HZ3 
 go_wp2_with fail
 refine (ae SOH _ _ ((ae HU).trans' (ae HB)) ((ae FF).but (ae HB))).mono ?_
 rintro e w1 ⟨⟨s1,x1,y1,p1⟩,rfl,hf,hb⟩
 dsimp only
 have K1:=(ae K0).but hb (by simp)
 obtain⟨⟨k0,k1,k2,k3⟩,kz⟩:=K1
 have hP:=ax w1 g23 s1 x1 y1 p1
 have KN:=af (j6 w1 g23 s1 x1 y1 p1 ⟨k0,k1,k2,k3⟩)
 have HF:=af (hf.over k0 hP)
 replace HB:=af (((ae HB).trans' hb).trans hP (fun x hx=>by simp at hx;subst hx;exact .inr (ae HG)))
 clear hf hb hP SOH K0 HG
 go_upto_if 171 with fail
 change Code.wp _ _ _ _ (qw w1 g23 s1 x1 y1 p1)
 generalize qw w1 g23 s1 x1 y1 p1=V1 at *
 clear k0 k1 k2 k3 kz
 obtain⟨m0,m1,m2,m3⟩:=ae KN
 go_wp2_with fail
 refine (ae ON4H _ _ b16 ((ae HU).trans' (ae HB)) (ae HF) (fun h=>absurd h (by first | decide | exact hne))).mono ?_
 rintro e w3 ⟨rfl,hb⟩
 replace HB:=af ((ae HB).trans' hb)
 clear hb ON4H HF KN m0 m1 m2 m3 RSH
 go_upto_if 180 with fail
 go_cut [8] (fun s8 wx=>s8=.bool false∧wx=w3)
 case first =>(
 go_wp2_with fail
 go_meet
 exact⟨rfl,rfl⟩)
 case rest =>(
 obtain⟨rfl,rfl⟩:=hcut
 rename ∀ a w,Code.wp _ _ _ a w→_=>hK
 refine hK _ _ ?_
 exact zxm w _ fs vr vl (af ((ae HU).trans' (ae HB))) (af ((ae RR).but (ae HB))) (af ((ae FF).but (ae HB))) fo wd5 u5 v5 sg cc evL gl _ z4 (by first | exact .inr rfl | exact .inr (by decide) | exact .inr hz) (by first | exact HZ4 | exact af (by simpa using ae HZ4)) LAH RLH LWH _ _ _ _ _ _ _ _ _ _ _ _ _ _ _ _ _ _ _ _ _ _ _ _ _ _ _ _ _ _ _ _ _ _ _ _ _ _ _ _ _ _ _ _ _ _ _ _ _ _ _ _ _ _ _ _ _ _ _ _ _ _ _ _ _ _ _ _ _ _ _ _ _ _ _ _ _ _ _ _ _ _ _ _ _ _ _ _ _ _ _ _ _ _ _ _ _ _ _ _ _ _ _ _ _ _ _ _ _ _ _ _ _ _ _ _ _ _ _ _ _ _ _ _ _ _ _ _ _ _ _ _ _ _ _ _ _ _ _ _ _ _ _ _ _ _ _ _ _ _ _ _ _ _ _ _ _ _ _ _ _ _ _ _ _ _ _ _ _ _ _ _ _ _ _ _ _ _ _ _ _ _ _ _ _ _ _ _ _ _ _ _ _ _ _ _ _ _ _ _ _ _ _ _)))
theorem zxo (w W:World) (fs:List Rat) (vr vl:Value) (z:Int) (HB:Hid (But [] w W)) (RR:Hid (zn W vr fs)) (FF:Hid (au W vl fs)) (hz:z=0∨(z==0)=false) (fo wd5 u5 v5 sg cc:Int) (ch:Rat) (g5 b16 b18:Nat) (QB:Hid (qbm W g5 u5 v5)) (H18:Hid (ze W b18 ch)) (s5:Bool) (x5 y5:Int) (p5:Option Addr) (evW evS evL:Value) (fw fst:Rat) (gl:List Rat) (z2 z3 z4:Int) (HZ2:Hid (z2=if z=0∧(sg<0∨0≤cc) then 2 else z)) (HZ3:Hid (z3=if z=0∧(fo<0∨200<fo) then 2 else z)) (HZ4:Hid (z4=if z3=0∧(wd5<0∨200<wd5) then 2 else z3)) (SGH:Hid (∀ W x,ze W x ch→Calls prog 44 #[.pointer (some ⟨x,0,none⟩)] W fun e w'=>e=.returned (.int .i64 sg)∧But [] W w')) (I1H:Hid (∀ W,Calls prog 19 #[.int .i64 1] W fun e w'=>∃ b,e=.returned (.pointer (some ⟨b,0,none⟩))∧ze w' b (((1:Int):Rat))∧But [] W w')) (CMH:Hid (∀ W x y,ze W x ch→ze W y (((1:Int):Rat))→Calls prog 22 #[.pointer (some ⟨x,0,none⟩),.pointer (some ⟨y,0,none⟩)] W fun e w'=>e=.returned (.int .i64 cc)∧But [] W w')) (PFH:Hid (∀ W,Calls prog 9 #[.agg #[.int .i64 u5,.int .i64 v5]] W fun e w'=>e=.returned (.agg #[.bool s5,.int .u64 x5,.int .u64 y5,.pointer p5])∧But [] W w')) (WOH:Hid (∀ W v,But [] w W→au W v fs→Calls prog 47 #[v,.agg #[.bool s5,.int .u64 x5,.int .u64 y5,.pointer p5]] W fun e w'=>∃ t:FZ,e=.returned (.tuple #[.agg #[.bool t.1,.int .u64 t.2.1,.int .u64 t.2.2.1,.pointer t.2.2.2],evW])∧aq w' (.agg #[.bool t.1,.int .u64 t.2.1,.int .u64 t.2.2.1,.pointer t.2.2.2]) fw∧But [] W w')) (RWH:Hid (z2=0→∀ W v x,zn W v fs→ze W x ch→Calls prog 48 #[v,.pointer (some ⟨x,0,none⟩)] W fun e w'=>∃ b,e=.returned (.pointer (some ⟨b,0,none⟩))∧ze w' b fw∧But [] W w')) (ON3H:Hid (∀ W v x,But [] w W→aq W v fw→(z2=0→ze W x fw)→Calls prog 21 #[v,evW,.pointer (some ⟨x,0,none⟩),.int .i64 z2] W fun e w'=>e=.returned (.bool true)∧But [] W w')) (SOH:Hid (∀ W v,But [] w W→au W v fs→Calls prog 49 #[v,.int .i64 fo] W fun e w'=>∃ t:FZ,e=.returned (.tuple #[.agg #[.bool t.1,.int .u64 t.2.1,.int .u64 t.2.2.1,.pointer t.2.2.2],evS])∧aq w' (.agg #[.bool t.1,.int .u64 t.2.1,.int .u64 t.2.2.1,.pointer t.2.2.2]) fst∧But [] W w')) (RSH:Hid (z3=0→∀ W v,zn W v fs→Calls prog 50 #[v,.int .i64 fo] W fun e w'=>∃ b,e=.returned (.pointer (some ⟨b,0,none⟩))∧ze w' b fst∧But [] W w')) (ON4H:Hid (∀ W v x,But [] w W→aq W v fst→(z3=0→ze W x fst)→Calls prog 21 #[v,evS,.pointer (some ⟨x,0,none⟩),.int .i64 z3] W fun e w'=>e=.returned (.bool true)∧But [] W w')) (LAH:Hid (∀ W v,But [] w W→au W v fs→Calls prog 51 #[v,.int .i64 fo,.int .i64 wd5] W fun e w'=>∃ v,e=.returned (.tuple #[v,evL])∧zcl w' z4 gl v∧But [] W w')) (RLH:Hid (z4=0→∀ W v,zn W v fs→Calls prog 52 #[v,.int .i64 fo,.int .i64 wd5] W fun e w'=>∃ v,e=.returned v∧zn w' v gl∧But [] W w')) (LWH:Hid (∀ W v x,But [] w W→zcl W z4 gl v→(z4=0→zn W x gl)→Calls prog 53 #[v,evL,x,.int .i64 z4] W fun e w'=>e=.returned (.bool true)∧But [] W w')) (q0 q1 q4 q6 q7 q12 q13 q14 q15 q17 q19 q20 q21 q22 q23 q24 q25 q26 q27 q28 q29 q30 q31 q32 q33 q34 q35 q36 q37 q38 q39 q40 q41 q42 q43 q44 q45 q46 q47 q48 q49 q50 q51 q52 q53 q54 q55 q56 q57 q58 q59 q60 q61 q62 q63 q64 q65 q66 q67 q68 q69 q70 q71 q72 q73 q74 q75 q76 q77 q78 q79 q80 q81 q82 q83 q84 q85 q86 q87 q88 q89 q90 q91 q92 q93 q94 q95 q96 q97 q98 q99 q100 q101 q102 q103 q104 q105 q106 q107 q108 q109 q110 q111 q112 q113 q114 q115 q116 q117 q118 q119 q120 q121 q122 q123 q124 q125 q126 q127 q128 q129 q130 q131 q132 q133 q134 q135 q136 q137 q138 q139 q140 q141 q142 q143 q144 q145 q146 q147 q148 q149 q150 q151 q152 q153 q154 q155 q156 q157 q158 q159 q160 q161 q162 q163 q164 q165 q166 q167 q168 q169 q170 q171 q172 q173 q174 q175 q176 q177 q178 q179 q180 q181 q182 q183 q184 q185 q186 q187 q188 q189 q190 q191 q192 q193 q194 q195 q196 q197 q198 q199 q200 q201 q202 q203 q204 q205 q206 q207 q208:Value) :
   Code.wp prog (zrt 16 zli) (bodyPost prog Tryz.f7 fun e w'=>e=.returned (.bool true)∧But [] w w') { tmps:=(q0::q1::.int .i64 fo::.int .i64 wd5::q4::.pointer (some ⟨g5,0,none⟩)::q6::q7::.bool false::vl::vr::.int .i64 z::q12::q13::q14::q15::.pointer (some ⟨b16,0,none⟩)::q17::.pointer (some ⟨b18,0,none⟩)::q19::q20::q21::q22::q23::q24::q25::q26::q27::q28::q29::q30::q31::q32::q33::q34::q35::q36::q37::q38::q39::q40::q41::q42::q43::q44::q45::q46::q47::q48::q49::q50::q51::q52::q53::q54::q55::q56::q57::q58::q59::q60::q61::q62::q63::q64::q65::q66::q67::q68::q69::q70::q71::q72::q73::q74::q75::q76::q77::q78::q79::q80::q81::q82::q83::q84::q85::q86::q87::q88::q89::q90::q91::q92::q93::q94::q95::q96::q97::q98::q99::q100::q101::q102::q103::q104::q105::q106::q107::q108::q109::q110::q111::q112::q113::q114::q115::q116::q117::q118::q119::q120::q121::q122::q123::q124::q125::q126::q127::q128::q129::q130::q131::q132::q133::q134::q135::q136::q137::q138::q139::q140::q141::q142::q143::q144::q145::q146::q147::q148::q149::q150::q151::q152::q153::q154::q155::q156::q157::q158::q159::q160::q161::q162::q163::q164::q165::q166::q167::q168::q169::q170::q171::q172::q173::q174::q175::q176::q177::q178::q179::q180::q181::q182::q183::q184::q185::q186::q187::q188::q189::q190::q191::q192::q193::q194::q195::q196::q197::q198::q199::q200::q201::q202::q203::q204::q205::q206::q207::q208::[]).toArray,defers:=[] } W:=by(
 conv=>arg 2;whnf
 rcases hz with rfl | hz
 ·(
 by_cases h1:sg<0
 ·(
 obtain rfl:z2=2:=by rw[ae HZ2,if_pos ⟨rfl,.inl h1⟩]
 clear HZ2 I1H CMH
 go_wp2_with fail
 refine (ae SGH _ _ (ae H18)).mono ?_
 rintro e w1 ⟨rfl,hb⟩
 replace HB:=af ((ae HB).trans' hb)
 replace RR:=af ((ae RR).but hb)
 replace FF:=af ((ae FF).but hb)
 replace H18:=af ((ae H18).but hb)
 replace QB:=af ((ae QB).but hb)
 clear hb SGH
 obtain⟨k0,k1⟩:=ae QB
 go_wp2_with fail
 refine (ae PFH _).mono ?_
 rintro e w4 ⟨rfl,hb⟩
 replace HB:=af ((ae HB).trans' hb)
 replace RR:=af ((ae RR).but hb)
 replace FF:=af ((ae FF).but hb)
 replace H18:=af ((ae H18).but hb)
 clear hb PFH k0 k1 QB
 go_wp2_with fail
 refine (ae WOH _ _ (ae HB) (ae FF)).mono ?_
 rintro e w5 ⟨⟨s1,x1,y1,p1⟩,rfl,hf,hb⟩
 dsimp only
 obtain⟨g23,hg23⟩:∃ g,g=w5.heap.size:=⟨_,rfl⟩
 obtain⟨V5,hV5⟩:∃ V,V=w5.alloc (.cells #[.bool s1,.int .u64 x1,.int .u64 y1,.pointer p1] 27):=⟨_,rfl⟩
 have hA:But [] w5 V5:=by rw[hV5];exact (But.refl _ _).alloc _
 have KHF:Hid (P4z V5 g23 s1 x1 y1 p1):=by
  show P4z V5 g23 s1 x1 y1 p1
  rw[hV5,hg23]
  exact⟨⟨by simp,by simp,by simp,by simp⟩,fun j=>by simp⟩
 have HU:=af ((ae HB).trans' hb)
 replace HB:=af hA
 replace RR:=af ((ae RR).but hb)
 replace FF:=af ((ae FF).but hb)
 have HF:=af (hf.but hA)
 have HG0:=af (Nat.le_of_eq hg23.symm)
 have HGV:=af (And.intro hg23 hV5)
 replace H18:=af ((ae H18).but (hb.trans' hA))
 clear hf hb hA hg23 hV5 WOH
 go_upto_if 143 with fail
 try rw[← (ae HGV).2]
 try rw[← (ae HGV).1]
 clear HGV
 obtain⟨m0,m1,m2,m3⟩:=(ae KHF).1
 go_wp2_with fail
 refine (ae ON3H _ _ b16 ((ae HU).trans' (ae HB)) (ae HF) (fun h=>absurd h (by first | decide | exact hne))).mono ?_
 rintro e w7 ⟨rfl,hb⟩
 replace HB:=af ((ae HB).trans' hb)
 replace KHF:=af ((ae KHF).but hb (by simp))
 clear hb ON3H HF m0 m1 m2 m3 RWH H18
 go_upto_if 152 with fail
 go_cut [8] (fun s8 wx=>s8=.bool false∧wx=w7)
 case first =>(
 go_wp2_with fail
 go_meet
 exact⟨rfl,rfl⟩)
 case rest =>(
 obtain⟨rfl,rfl⟩:=hcut
 rename ∀ a w,Code.wp _ _ _ a w→_=>hK
 refine hK _ _ ?_
 exact zxn w _ _ fs vr vl 0 HU HB RR FF (.inl rfl) fo wd5 u5 v5 sg cc b16 g23 s1 x1 y1 p1 KHF HG0 evS evL fst gl z3 z4 (by first | exact HZ3 | exact af (by simpa using ae HZ3)) (by first | exact HZ4 | exact af (by simpa using ae HZ4)) SOH RSH ON4H LAH RLH LWH _ _ _ _ _ _ _ _ _ _ _ _ _ _ _ _ _ _ _ _ _ _ _ _ _ _ _ _ _ _ _ _ _ _ _ _ _ _ _ _ _ _ _ _ _ _ _ _ _ _ _ _ _ _ _ _ _ _ _ _ _ _ _ _ _ _ _ _ _ _ _ _ _ _ _ _ _ _ _ _ _ _ _ _ _ _ _ _ _ _ _ _ _ _ _ _ _ _ _ _ _ _ _ _ _ _ _ _ _ _ _ _ _ _ _ _ _ _ _ _ _ _ _ _ _ _ _ _ _ _ _ _ _ _ _ _ _ _ _ _ _ _ _ _ _ _ _ _ _ _ _ _ _ _ _ _ _ _ _ _ _ _ _ _ _ _ _ _ _ _ _ _ _ _ _ _ _ _ _ _ _ _ _ _ _ _ _ _ _ _ _ _ _ _ _ _ _ _ _ _ _))
 ·(
 by_cases h2:cc ≥ 0
 ·(
 obtain rfl:z2=2:=by rw[ae HZ2,if_pos ⟨rfl,.inr h2⟩]
 clear HZ2
 go_wp2_with fail
 refine (ae SGH _ _ (ae H18)).mono ?_
 rintro e w1 ⟨rfl,hb⟩
 replace HB:=af ((ae HB).trans' hb)
 replace RR:=af ((ae RR).but hb)
 replace FF:=af ((ae FF).but hb)
 replace H18:=af ((ae H18).but hb)
 replace QB:=af ((ae QB).but hb)
 clear hb SGH
 go_wp2_with fail
 refine (ae I1H _).mono ?_
 rintro e w2 ⟨b2,rfl,h2,hb⟩
 replace HB:=af ((ae HB).trans' hb)
 replace RR:=af ((ae RR).but hb)
 replace FF:=af ((ae FF).but hb)
 replace H18:=af ((ae H18).but hb)
 replace QB:=af ((ae QB).but hb)
 have H2:=af (h2)
 clear h2 hb I1H
 go_wp2_with fail
 refine (ae CMH _ _ _ (ae H18) (ae H2)).mono ?_
 rintro e w3 ⟨rfl,hb⟩
 replace HB:=af ((ae HB).trans' hb)
 replace RR:=af ((ae RR).but hb)
 replace FF:=af ((ae FF).but hb)
 replace H18:=af ((ae H18).but hb)
 replace QB:=af ((ae QB).but hb)
 clear hb H2 CMH
 obtain⟨k0,k1⟩:=ae QB
 go_wp2_with fail
 refine (ae PFH _).mono ?_
 rintro e w4 ⟨rfl,hb⟩
 replace HB:=af ((ae HB).trans' hb)
 replace RR:=af ((ae RR).but hb)
 replace FF:=af ((ae FF).but hb)
 replace H18:=af ((ae H18).but hb)
 clear hb PFH k0 k1 QB
 go_wp2_with fail
 refine (ae WOH _ _ (ae HB) (ae FF)).mono ?_
 rintro e w5 ⟨⟨s1,x1,y1,p1⟩,rfl,hf,hb⟩
 dsimp only
 obtain⟨g23,hg23⟩:∃ g,g=w5.heap.size:=⟨_,rfl⟩
 obtain⟨V5,hV5⟩:∃ V,V=w5.alloc (.cells #[.bool s1,.int .u64 x1,.int .u64 y1,.pointer p1] 27):=⟨_,rfl⟩
 have hA:But [] w5 V5:=by rw[hV5];exact (But.refl _ _).alloc _
 have KHF:Hid (P4z V5 g23 s1 x1 y1 p1):=by
  show P4z V5 g23 s1 x1 y1 p1
  rw[hV5,hg23]
  exact⟨⟨by simp,by simp,by simp,by simp⟩,fun j=>by simp⟩
 have HU:=af ((ae HB).trans' hb)
 replace HB:=af hA
 replace RR:=af ((ae RR).but hb)
 replace FF:=af ((ae FF).but hb)
 have HF:=af (hf.but hA)
 have HG0:=af (Nat.le_of_eq hg23.symm)
 have HGV:=af (And.intro hg23 hV5)
 replace H18:=af ((ae H18).but (hb.trans' hA))
 clear hf hb hA hg23 hV5 WOH
 go_upto_if 143 with fail
 try rw[← (ae HGV).2]
 try rw[← (ae HGV).1]
 clear HGV
 obtain⟨m0,m1,m2,m3⟩:=(ae KHF).1
 go_wp2_with fail
 refine (ae ON3H _ _ b16 ((ae HU).trans' (ae HB)) (ae HF) (fun h=>absurd h (by first | decide | exact hne))).mono ?_
 rintro e w7 ⟨rfl,hb⟩
 replace HB:=af ((ae HB).trans' hb)
 replace KHF:=af ((ae KHF).but hb (by simp))
 clear hb ON3H HF m0 m1 m2 m3 RWH H18
 go_upto_if 152 with fail
 go_cut [8] (fun s8 wx=>s8=.bool false∧wx=w7)
 case first =>(
 go_wp2_with fail
 go_meet
 exact⟨rfl,rfl⟩)
 case rest =>(
 obtain⟨rfl,rfl⟩:=hcut
 rename ∀ a w,Code.wp _ _ _ a w→_=>hK
 refine hK _ _ ?_
 exact zxn w _ _ fs vr vl 0 HU HB RR FF (.inl rfl) fo wd5 u5 v5 sg cc b16 g23 s1 x1 y1 p1 KHF HG0 evS evL fst gl z3 z4 (by first | exact HZ3 | exact af (by simpa using ae HZ3)) (by first | exact HZ4 | exact af (by simpa using ae HZ4)) SOH RSH ON4H LAH RLH LWH _ _ _ _ _ _ _ _ _ _ _ _ _ _ _ _ _ _ _ _ _ _ _ _ _ _ _ _ _ _ _ _ _ _ _ _ _ _ _ _ _ _ _ _ _ _ _ _ _ _ _ _ _ _ _ _ _ _ _ _ _ _ _ _ _ _ _ _ _ _ _ _ _ _ _ _ _ _ _ _ _ _ _ _ _ _ _ _ _ _ _ _ _ _ _ _ _ _ _ _ _ _ _ _ _ _ _ _ _ _ _ _ _ _ _ _ _ _ _ _ _ _ _ _ _ _ _ _ _ _ _ _ _ _ _ _ _ _ _ _ _ _ _ _ _ _ _ _ _ _ _ _ _ _ _ _ _ _ _ _ _ _ _ _ _ _ _ _ _ _ _ _ _ _ _ _ _ _ _ _ _ _ _ _ _ _ _ _ _ _ _ _ _ _ _ _ _ _ _ _ _))
 ·(
 obtain rfl:z2=0:=by rw[ae HZ2,if_neg (fun h=>h.2.elim h1 h2)]
 clear HZ2
 go_wp2_with fail
 refine (ae SGH _ _ (ae H18)).mono ?_
 rintro e w1 ⟨rfl,hb⟩
 replace HB:=af ((ae HB).trans' hb)
 replace RR:=af ((ae RR).but hb)
 replace FF:=af ((ae FF).but hb)
 replace H18:=af ((ae H18).but hb)
 replace QB:=af ((ae QB).but hb)
 clear hb SGH
 go_wp2_with fail
 refine (ae I1H _).mono ?_
 rintro e w2 ⟨b2,rfl,h2,hb⟩
 replace HB:=af ((ae HB).trans' hb)
 replace RR:=af ((ae RR).but hb)
 replace FF:=af ((ae FF).but hb)
 replace H18:=af ((ae H18).but hb)
 replace QB:=af ((ae QB).but hb)
 have H2:=af (h2)
 clear h2 hb I1H
 go_wp2_with fail
 refine (ae CMH _ _ _ (ae H18) (ae H2)).mono ?_
 rintro e w3 ⟨rfl,hb⟩
 replace HB:=af ((ae HB).trans' hb)
 replace RR:=af ((ae RR).but hb)
 replace FF:=af ((ae FF).but hb)
 replace H18:=af ((ae H18).but hb)
 replace QB:=af ((ae QB).but hb)
 clear hb H2 CMH
 obtain⟨k0,k1⟩:=ae QB
 go_wp2_with fail
 refine (ae PFH _).mono ?_
 rintro e w4 ⟨rfl,hb⟩
 replace HB:=af ((ae HB).trans' hb)
 replace RR:=af ((ae RR).but hb)
 replace FF:=af ((ae FF).but hb)
 replace H18:=af ((ae H18).but hb)
 clear hb PFH k0 k1 QB
 go_wp2_with fail
 refine (ae WOH _ _ (ae HB) (ae FF)).mono ?_
 rintro e w5 ⟨⟨s1,x1,y1,p1⟩,rfl,hf,hb⟩
 dsimp only
 obtain⟨g23,hg23⟩:∃ g,g=w5.heap.size:=⟨_,rfl⟩
 obtain⟨V5,hV5⟩:∃ V,V=w5.alloc (.cells #[.bool s1,.int .u64 x1,.int .u64 y1,.pointer p1] 27):=⟨_,rfl⟩
 have hA:But [] w5 V5:=by rw[hV5];exact (But.refl _ _).alloc _
 have KHF:Hid (P4z V5 g23 s1 x1 y1 p1):=by
  show P4z V5 g23 s1 x1 y1 p1
  rw[hV5,hg23]
  exact⟨⟨by simp,by simp,by simp,by simp⟩,fun j=>by simp⟩
 have HU:=af ((ae HB).trans' hb)
 replace HB:=af hA
 replace RR:=af ((ae RR).but hb)
 replace FF:=af ((ae FF).but hb)
 have HF:=af (hf.but hA)
 have HG0:=af (Nat.le_of_eq hg23.symm)
 have HGV:=af (And.intro hg23 hV5)
 replace H18:=af ((ae H18).but (hb.trans' hA))
 clear hf hb hA hg23 hV5 WOH
 go_wp2_with fail
 try rw[← (ae HGV).2]
 try rw[← (ae HGV).1]
 clear HGV
 refine (ae RWH (by simp) _ _ _ ((ae RR).but (ae HB)) (ae H18)).mono ?_
 rintro e w6 ⟨b6,rfl,h6,hb⟩
 replace HB:=af ((ae HB).trans' hb)
 replace HF:=af ((ae HF).but hb)
 replace KHF:=af ((ae KHF).but hb (by simp))
 have H6:=af (h6)
 clear h6 hb RWH H18
 obtain⟨m0,m1,m2,m3⟩:=(ae KHF).1
 go_wp2_with fail
 refine (ae ON3H _ _ b6 ((ae HU).trans' (ae HB)) (ae HF) (fun _=>ae H6)).mono ?_
 rintro e w7 ⟨rfl,hb⟩
 replace HB:=af ((ae HB).trans' hb)
 replace KHF:=af ((ae KHF).but hb (by simp))
 clear hb ON3H HF m0 m1 m2 m3 H6
 go_upto_if 152 with fail
 go_cut [8] (fun s8 wx=>s8=.bool false∧wx=w7)
 case first =>(
 go_wp2_with fail
 go_meet
 exact⟨rfl,rfl⟩)
 case rest =>(
 obtain⟨rfl,rfl⟩:=hcut
 rename ∀ a w,Code.wp _ _ _ a w→_=>hK
 refine hK _ _ ?_
 exact zxn w _ _ fs vr vl 0 HU HB RR FF (.inl rfl) fo wd5 u5 v5 sg cc b6 g23 s1 x1 y1 p1 KHF HG0 evS evL fst gl z3 z4 (by first | exact HZ3 | exact af (by simpa using ae HZ3)) (by first | exact HZ4 | exact af (by simpa using ae HZ4)) SOH RSH ON4H LAH RLH LWH _ _ _ _ _ _ _ _ _ _ _ _ _ _ _ _ _ _ _ _ _ _ _ _ _ _ _ _ _ _ _ _ _ _ _ _ _ _ _ _ _ _ _ _ _ _ _ _ _ _ _ _ _ _ _ _ _ _ _ _ _ _ _ _ _ _ _ _ _ _ _ _ _ _ _ _ _ _ _ _ _ _ _ _ _ _ _ _ _ _ _ _ _ _ _ _ _ _ _ _ _ _ _ _ _ _ _ _ _ _ _ _ _ _ _ _ _ _ _ _ _ _ _ _ _ _ _ _ _ _ _ _ _ _ _ _ _ _ _ _ _ _ _ _ _ _ _ _ _ _ _ _ _ _ _ _ _ _ _ _ _ _ _ _ _ _ _ _ _ _ _ _ _ _ _ _ _ _ _ _ _ _ _ _ _ _ _ _ _ _ _ _ _ _ _ _ _ _ _ _ _))))
 ·(
 have hne:¬ z=0:=fun h=>by rw[h] at hz;simp at hz
 obtain rfl:z2=z:=by rw[ae HZ2,if_neg (fun h=>hne h.1)]
 clear HZ2 SGH I1H CMH
 obtain⟨k0,k1⟩:=ae QB
 go_wp2_with fail
 refine (ae PFH _).mono ?_
 rintro e w4 ⟨rfl,hb⟩
 replace HB:=af ((ae HB).trans' hb)
 replace RR:=af ((ae RR).but hb)
 replace FF:=af ((ae FF).but hb)
 replace H18:=af ((ae H18).but hb)
 clear hb PFH k0 k1 QB
 go_wp2_with fail
 refine (ae WOH _ _ (ae HB) (ae FF)).mono ?_
 rintro e w5 ⟨⟨s1,x1,y1,p1⟩,rfl,hf,hb⟩
 dsimp only
 obtain⟨g23,hg23⟩:∃ g,g=w5.heap.size:=⟨_,rfl⟩
 obtain⟨V5,hV5⟩:∃ V,V=w5.alloc (.cells #[.bool s1,.int .u64 x1,.int .u64 y1,.pointer p1] 27):=⟨_,rfl⟩
 have hA:But [] w5 V5:=by rw[hV5];exact (But.refl _ _).alloc _
 have KHF:Hid (P4z V5 g23 s1 x1 y1 p1):=by
  show P4z V5 g23 s1 x1 y1 p1
  rw[hV5,hg23]
  exact⟨⟨by simp,by simp,by simp,by simp⟩,fun j=>by simp⟩
 have HU:=af ((ae HB).trans' hb)
 replace HB:=af hA
 replace RR:=af ((ae RR).but hb)
 replace FF:=af ((ae FF).but hb)
 have HF:=af (hf.but hA)
 have HG0:=af (Nat.le_of_eq hg23.symm)
 have HGV:=af (And.intro hg23 hV5)
 replace H18:=af ((ae H18).but (hb.trans' hA))
 clear hf hb hA hg23 hV5 WOH
 go_upto_if 143 with fail
 try rw[← (ae HGV).2]
 try rw[← (ae HGV).1]
 clear HGV
 obtain⟨m0,m1,m2,m3⟩:=(ae KHF).1
 go_wp2_with fail
 refine (ae ON3H _ _ b16 ((ae HU).trans' (ae HB)) (ae HF) (fun h=>absurd h (by first | decide | exact hne))).mono ?_
 rintro e w7 ⟨rfl,hb⟩
 replace HB:=af ((ae HB).trans' hb)
 replace KHF:=af ((ae KHF).but hb (by simp))
 clear hb ON3H HF m0 m1 m2 m3 RWH H18
 go_upto_if 152 with fail
 go_cut [8] (fun s8 wx=>s8=.bool false∧wx=w7)
 case first =>(
 go_wp2_with fail
 go_meet
 exact⟨rfl,rfl⟩)
 case rest =>(
 obtain⟨rfl,rfl⟩:=hcut
 rename ∀ a w,Code.wp _ _ _ a w→_=>hK
 refine hK _ _ ?_
 exact zxn w _ _ fs vr vl _ HU HB RR FF (.inr hz) fo wd5 u5 v5 sg cc b16 g23 s1 x1 y1 p1 KHF HG0 evS evL fst gl z3 z4 (by first | exact HZ3 | exact af (by simpa using ae HZ3)) (by first | exact HZ4 | exact af (by simpa using ae HZ4)) SOH RSH ON4H LAH RLH LWH _ _ _ _ _ _ _ _ _ _ _ _ _ _ _ _ _ _ _ _ _ _ _ _ _ _ _ _ _ _ _ _ _ _ _ _ _ _ _ _ _ _ _ _ _ _ _ _ _ _ _ _ _ _ _ _ _ _ _ _ _ _ _ _ _ _ _ _ _ _ _ _ _ _ _ _ _ _ _ _ _ _ _ _ _ _ _ _ _ _ _ _ _ _ _ _ _ _ _ _ _ _ _ _ _ _ _ _ _ _ _ _ _ _ _ _ _ _ _ _ _ _ _ _ _ _ _ _ _ _ _ _ _ _ _ _ _ _ _ _ _ _ _ _ _ _ _ _ _ _ _ _ _ _ _ _ _ _ _ _ _ _ _ _ _ _ _ _ _ _ _ _ _ _ _ _ _ _ _ _ _ _ _ _ _ _ _ _ _ _ _ _ _ _ _ _ _ _ _ _ _)))
theorem qiu (w W:World) (fs:List Rat) (vr vl:Value) (z:Int) (HB:Hid (But [] w W)) (RR:Hid (zn W vr fs)) (FF:Hid (au W vl fs)) (hz:z=0∨(z==0)=false) (fo wd5 u5 v5 sg cc:Int) (kq:Int) (ch:Rat) (g5 b16:Nat) (QB:Hid (qbm W g5 u5 v5)) (s5:Bool) (x5 y5:Int) (p5:Option Addr) (evQ evW evS evL:Value) (fw fst:Rat) (gl:List Rat) (z1 z2 z3 z4:Int) (HZ1:Hid (z1=if z=0∧(sg≤0∨0<cc) then 2 else z)) (HZ2:Hid (z2=if z=0∧(sg<0∨0≤cc) then 2 else z)) (HZ3:Hid (z3=if z=0∧(fo<0∨200<fo) then 2 else z)) (HZ4:Hid (z4=if z3=0∧(wd5<0∨200<wd5) then 2 else z3)) (ROH:Hid (∀ W,Calls prog 14 #[.agg #[.int .i64 u5,.int .i64 v5]] W fun e w'=>∃ b,e=.returned (.pointer (some ⟨b,0,none⟩))∧ze w' b ch∧But [] W w')) (SGH:Hid (∀ W x,ze W x ch→Calls prog 44 #[.pointer (some ⟨x,0,none⟩)] W fun e w'=>e=.returned (.int .i64 sg)∧But [] W w')) (I1H:Hid (∀ W,Calls prog 19 #[.int .i64 1] W fun e w'=>∃ b,e=.returned (.pointer (some ⟨b,0,none⟩))∧ze w' b (((1:Int):Rat))∧But [] W w')) (CMH:Hid (∀ W x y,ze W x ch→ze W y (((1:Int):Rat))→Calls prog 22 #[.pointer (some ⟨x,0,none⟩),.pointer (some ⟨y,0,none⟩)] W fun e w'=>e=.returned (.int .i64 cc)∧But [] W w')) (PFH:Hid (∀ W,Calls prog 9 #[.agg #[.int .i64 u5,.int .i64 v5]] W fun e w'=>e=.returned (.agg #[.bool s5,.int .u64 x5,.int .u64 y5,.pointer p5])∧But [] W w')) (QUH:Hid (∀ W v,But [] w W→au W v fs→Calls prog 45 #[v,.agg #[.bool s5,.int .u64 x5,.int .u64 y5,.pointer p5]] W fun e w'=>e=.returned (.tuple #[.int .i64 kq,evQ])∧But [] W w')) (RQH:Hid (z1=0→∀ W v x,zn W v fs→ze W x ch→Calls prog 46 #[v,.pointer (some ⟨x,0,none⟩)] W fun e w'=>e=.returned (.int .i64 kq)∧But [] W w')) (BKH:Hid (z1≠0→kq=0)) (TQH:Hid (∀ W,But [] w W→Calls prog 10 #[evQ] W fun e w'=>e=.returned (.int .i64 z1)∧But [] W w')) (WOH:Hid (∀ W v,But [] w W→au W v fs→Calls prog 47 #[v,.agg #[.bool s5,.int .u64 x5,.int .u64 y5,.pointer p5]] W fun e w'=>∃ t:FZ,e=.returned (.tuple #[.agg #[.bool t.1,.int .u64 t.2.1,.int .u64 t.2.2.1,.pointer t.2.2.2],evW])∧aq w' (.agg #[.bool t.1,.int .u64 t.2.1,.int .u64 t.2.2.1,.pointer t.2.2.2]) fw∧But [] W w')) (RWH:Hid (z2=0→∀ W v x,zn W v fs→ze W x ch→Calls prog 48 #[v,.pointer (some ⟨x,0,none⟩)] W fun e w'=>∃ b,e=.returned (.pointer (some ⟨b,0,none⟩))∧ze w' b fw∧But [] W w')) (ON3H:Hid (∀ W v x,But [] w W→aq W v fw→(z2=0→ze W x fw)→Calls prog 21 #[v,evW,.pointer (some ⟨x,0,none⟩),.int .i64 z2] W fun e w'=>e=.returned (.bool true)∧But [] W w')) (SOH:Hid (∀ W v,But [] w W→au W v fs→Calls prog 49 #[v,.int .i64 fo] W fun e w'=>∃ t:FZ,e=.returned (.tuple #[.agg #[.bool t.1,.int .u64 t.2.1,.int .u64 t.2.2.1,.pointer t.2.2.2],evS])∧aq w' (.agg #[.bool t.1,.int .u64 t.2.1,.int .u64 t.2.2.1,.pointer t.2.2.2]) fst∧But [] W w')) (RSH:Hid (z3=0→∀ W v,zn W v fs→Calls prog 50 #[v,.int .i64 fo] W fun e w'=>∃ b,e=.returned (.pointer (some ⟨b,0,none⟩))∧ze w' b fst∧But [] W w')) (ON4H:Hid (∀ W v x,But [] w W→aq W v fst→(z3=0→ze W x fst)→Calls prog 21 #[v,evS,.pointer (some ⟨x,0,none⟩),.int .i64 z3] W fun e w'=>e=.returned (.bool true)∧But [] W w')) (LAH:Hid (∀ W v,But [] w W→au W v fs→Calls prog 51 #[v,.int .i64 fo,.int .i64 wd5] W fun e w'=>∃ v,e=.returned (.tuple #[v,evL])∧zcl w' z4 gl v∧But [] W w')) (RLH:Hid (z4=0→∀ W v,zn W v fs→Calls prog 52 #[v,.int .i64 fo,.int .i64 wd5] W fun e w'=>∃ v,e=.returned v∧zn w' v gl∧But [] W w')) (LWH:Hid (∀ W v x,But [] w W→zcl W z4 gl v→(z4=0→zn W x gl)→Calls prog 53 #[v,evL,x,.int .i64 z4] W fun e w'=>e=.returned (.bool true)∧But [] W w')) (q0 q1 q4 q6 q7 q12 q13 q14 q15 q17 q18 q19 q20 q21 q22 q23 q24 q25 q26 q27 q28 q29 q30 q31 q32 q33 q34 q35 q36 q37 q38 q39 q40 q41 q42 q43 q44 q45 q46 q47 q48 q49 q50 q51 q52 q53 q54 q55 q56 q57 q58 q59 q60 q61 q62 q63 q64 q65 q66 q67 q68 q69 q70 q71 q72 q73 q74 q75 q76 q77 q78 q79 q80 q81 q82 q83 q84 q85 q86 q87 q88 q89 q90 q91 q92 q93 q94 q95 q96 q97 q98 q99 q100 q101 q102 q103 q104 q105 q106 q107 q108 q109 q110 q111 q112 q113 q114 q115 q116 q117 q118 q119 q120 q121 q122 q123 q124 q125 q126 q127 q128 q129 q130 q131 q132 q133 q134 q135 q136 q137 q138 q139 q140 q141 q142 q143 q144 q145 q146 q147 q148 q149 q150 q151 q152 q153 q154 q155 q156 q157 q158 q159 q160 q161 q162 q163 q164 q165 q166 q167 q168 q169 q170 q171 q172 q173 q174 q175 q176 q177 q178 q179 q180 q181 q182 q183 q184 q185 q186 q187 q188 q189 q190 q191 q192 q193 q194 q195 q196 q197 q198 q199 q200 q201 q202 q203 q204 q205 q206 q207 q208:Value) :
   Code.wp prog (zrt 9 zli) (bodyPost prog Tryz.f7 fun e w'=>e=.returned (.bool true)∧But [] w w') { tmps:=(q0::q1::.int .i64 fo::.int .i64 wd5::q4::.pointer (some ⟨g5,0,none⟩)::q6::q7::.bool false::vl::vr::.int .i64 z::q12::q13::q14::q15::.pointer (some ⟨b16,0,none⟩)::q17::q18::q19::q20::q21::q22::q23::q24::q25::q26::q27::q28::q29::q30::q31::q32::q33::q34::q35::q36::q37::q38::q39::q40::q41::q42::q43::q44::q45::q46::q47::q48::q49::q50::q51::q52::q53::q54::q55::q56::q57::q58::q59::q60::q61::q62::q63::q64::q65::q66::q67::q68::q69::q70::q71::q72::q73::q74::q75::q76::q77::q78::q79::q80::q81::q82::q83::q84::q85::q86::q87::q88::q89::q90::q91::q92::q93::q94::q95::q96::q97::q98::q99::q100::q101::q102::q103::q104::q105::q106::q107::q108::q109::q110::q111::q112::q113::q114::q115::q116::q117::q118::q119::q120::q121::q122::q123::q124::q125::q126::q127::q128::q129::q130::q131::q132::q133::q134::q135::q136::q137::q138::q139::q140::q141::q142::q143::q144::q145::q146::q147::q148::q149::q150::q151::q152::q153::q154::q155::q156::q157::q158::q159::q160::q161::q162::q163::q164::q165::q166::q167::q168::q169::q170::q171::q172::q173::q174::q175::q176::q177::q178::q179::q180::q181::q182::q183::q184::q185::q186::q187::q188::q189::q190::q191::q192::q193::q194::q195::q196::q197::q198::q199::q200::q201::q202::q203::q204::q205::q206::q207::q208::[]).toArray,defers:=[] } W:=by(
 conv=>arg 2;whnf
 obtain⟨k0,k1⟩:=ae QB
 go_wp2_with fail
 refine (ae ROH _).mono ?_
 rintro e w0 ⟨b18,rfl,h18,hb⟩
 replace HB:=af ((ae HB).trans' hb)
 replace RR:=af ((ae RR).but hb)
 replace FF:=af ((ae FF).but hb)
 replace QB:=af ((ae QB).but hb)
 have H18:=af (h18)
 clear h18 hb ROH k0 k1
 rcases hz with rfl | hz
 ·(
 by_cases h1:sg≤0
 ·(
 obtain rfl:z1=2:=by rw[ae HZ1,if_pos ⟨rfl,.inl h1⟩]
 clear HZ1 
 go_wp2_with fail
 refine (ae SGH _ _ (ae H18)).mono ?_
 rintro e w1 ⟨rfl,hb⟩
 replace HB:=af ((ae HB).trans' hb)
 replace RR:=af ((ae RR).but hb)
 replace FF:=af ((ae FF).but hb)
 replace H18:=af ((ae H18).but hb)
 replace QB:=af ((ae QB).but hb)
 clear hb
 obtain⟨k0,k1⟩:=ae QB
 go_wp2_with fail
 refine (ae PFH _).mono ?_
 rintro e w4 ⟨rfl,hb⟩
 replace HB:=af ((ae HB).trans' hb)
 replace RR:=af ((ae RR).but hb)
 replace FF:=af ((ae FF).but hb)
 replace H18:=af ((ae H18).but hb)
 replace QB:=af ((ae QB).but hb)
 clear hb k0 k1
 go_wp2_with fail
 refine (ae QUH _ _ (ae HB) (ae FF)).mono ?_
 rintro e w5 ⟨rfl,hb⟩
 replace HB:=af ((ae HB).trans' hb)
 replace RR:=af ((ae RR).but hb)
 replace FF:=af ((ae FF).but hb)
 replace H18:=af ((ae H18).but hb)
 replace QB:=af ((ae QB).but hb)
 clear hb QUH
 obtain rfl:kq=0:=ae BKH (by first | decide | exact hne)
 clear RQH BKH
 go_wp2_with fail
 refine (ae TQH _ (ae HB)).mono ?_
 rintro e w7 ⟨rfl,hb⟩
 replace HB:=af ((ae HB).trans' hb)
 replace RR:=af ((ae RR).but hb)
 replace FF:=af ((ae FF).but hb)
 replace H18:=af ((ae H18).but hb)
 replace QB:=af ((ae QB).but hb)
 clear hb TQH
 go_upto_if 120 with fail
 go_cut [8] (fun s8 wx=>s8=.bool false∧wx=w7)
 case first =>(
 go_wp2_with fail
 go_meet
 exact⟨rfl,rfl⟩)
 case rest =>(
 obtain⟨rfl,rfl⟩:=hcut
 rename ∀ a w,Code.wp _ _ _ a w→_=>hK
 refine hK _ _ ?_
 exact zxo w _ fs vr vl 0 HB RR FF (.inl rfl) fo wd5 u5 v5 sg cc ch g5 b16 b18 QB H18 s5 x5 y5 p5 evW evS evL fw fst gl z2 z3 z4 (by first | exact HZ2 | exact af (by simpa using ae HZ2)) (by first | exact HZ3 | exact af (by simpa using ae HZ3)) (by first | exact HZ4 | exact af (by simpa using ae HZ4)) SGH I1H CMH PFH WOH RWH ON3H SOH RSH ON4H LAH RLH LWH _ _ _ _ _ _ _ _ _ _ _ _ _ _ _ _ _ _ _ _ _ _ _ _ _ _ _ _ _ _ _ _ _ _ _ _ _ _ _ _ _ _ _ _ _ _ _ _ _ _ _ _ _ _ _ _ _ _ _ _ _ _ _ _ _ _ _ _ _ _ _ _ _ _ _ _ _ _ _ _ _ _ _ _ _ _ _ _ _ _ _ _ _ _ _ _ _ _ _ _ _ _ _ _ _ _ _ _ _ _ _ _ _ _ _ _ _ _ _ _ _ _ _ _ _ _ _ _ _ _ _ _ _ _ _ _ _ _ _ _ _ _ _ _ _ _ _ _ _ _ _ _ _ _ _ _ _ _ _ _ _ _ _ _ _ _ _ _ _ _ _ _ _ _ _ _ _ _ _ _ _ _ _ _ _ _ _ _ _ _ _ _ _ _ _ _ _ _ _ _))
 ·(
 by_cases h2:cc > 0
 ·(
 obtain rfl:z1=2:=by rw[ae HZ1,if_pos ⟨rfl,.inr h2⟩]
 clear HZ1
 go_wp2_with fail
 refine (ae SGH _ _ (ae H18)).mono ?_
 rintro e w1 ⟨rfl,hb⟩
 replace HB:=af ((ae HB).trans' hb)
 replace RR:=af ((ae RR).but hb)
 replace FF:=af ((ae FF).but hb)
 replace H18:=af ((ae H18).but hb)
 replace QB:=af ((ae QB).but hb)
 clear hb
 go_wp2_with fail
 refine (ae I1H _).mono ?_
 rintro e w2 ⟨b2,rfl,h2,hb⟩
 replace HB:=af ((ae HB).trans' hb)
 replace RR:=af ((ae RR).but hb)
 replace FF:=af ((ae FF).but hb)
 replace H18:=af ((ae H18).but hb)
 replace QB:=af ((ae QB).but hb)
 have H2:=af (h2)
 clear h2 hb
 go_wp2_with fail
 refine (ae CMH _ _ _ (ae H18) (ae H2)).mono ?_
 rintro e w3 ⟨rfl,hb⟩
 replace HB:=af ((ae HB).trans' hb)
 replace RR:=af ((ae RR).but hb)
 replace FF:=af ((ae FF).but hb)
 replace H18:=af ((ae H18).but hb)
 replace QB:=af ((ae QB).but hb)
 clear hb H2
 obtain⟨k0,k1⟩:=ae QB
 go_wp2_with fail
 refine (ae PFH _).mono ?_
 rintro e w4 ⟨rfl,hb⟩
 replace HB:=af ((ae HB).trans' hb)
 replace RR:=af ((ae RR).but hb)
 replace FF:=af ((ae FF).but hb)
 replace H18:=af ((ae H18).but hb)
 replace QB:=af ((ae QB).but hb)
 clear hb k0 k1
 go_wp2_with fail
 refine (ae QUH _ _ (ae HB) (ae FF)).mono ?_
 rintro e w5 ⟨rfl,hb⟩
 replace HB:=af ((ae HB).trans' hb)
 replace RR:=af ((ae RR).but hb)
 replace FF:=af ((ae FF).but hb)
 replace H18:=af ((ae H18).but hb)
 replace QB:=af ((ae QB).but hb)
 clear hb QUH
 obtain rfl:kq=0:=ae BKH (by first | decide | exact hne)
 clear RQH BKH
 go_wp2_with fail
 refine (ae TQH _ (ae HB)).mono ?_
 rintro e w7 ⟨rfl,hb⟩
 replace HB:=af ((ae HB).trans' hb)
 replace RR:=af ((ae RR).but hb)
 replace FF:=af ((ae FF).but hb)
 replace H18:=af ((ae H18).but hb)
 replace QB:=af ((ae QB).but hb)
 clear hb TQH
 go_upto_if 120 with fail
 go_cut [8] (fun s8 wx=>s8=.bool false∧wx=w7)
 case first =>(
 go_wp2_with fail
 go_meet
 exact⟨rfl,rfl⟩)
 case rest =>(
 obtain⟨rfl,rfl⟩:=hcut
 rename ∀ a w,Code.wp _ _ _ a w→_=>hK
 refine hK _ _ ?_
 exact zxo w _ fs vr vl 0 HB RR FF (.inl rfl) fo wd5 u5 v5 sg cc ch g5 b16 b18 QB H18 s5 x5 y5 p5 evW evS evL fw fst gl z2 z3 z4 (by first | exact HZ2 | exact af (by simpa using ae HZ2)) (by first | exact HZ3 | exact af (by simpa using ae HZ3)) (by first | exact HZ4 | exact af (by simpa using ae HZ4)) SGH I1H CMH PFH WOH RWH ON3H SOH RSH ON4H LAH RLH LWH _ _ _ _ _ _ _ _ _ _ _ _ _ _ _ _ _ _ _ _ _ _ _ _ _ _ _ _ _ _ _ _ _ _ _ _ _ _ _ _ _ _ _ _ _ _ _ _ _ _ _ _ _ _ _ _ _ _ _ _ _ _ _ _ _ _ _ _ _ _ _ _ _ _ _ _ _ _ _ _ _ _ _ _ _ _ _ _ _ _ _ _ _ _ _ _ _ _ _ _ _ _ _ _ _ _ _ _ _ _ _ _ _ _ _ _ _ _ _ _ _ _ _ _ _ _ _ _ _ _ _ _ _ _ _ _ _ _ _ _ _ _ _ _ _ _ _ _ _ _ _ _ _ _ _ _ _ _ _ _ _ _ _ _ _ _ _ _ _ _ _ _ _ _ _ _ _ _ _ _ _ _ _ _ _ _ _ _ _ _ _ _ _ _ _ _ _ _ _ _))
 ·(
 obtain rfl:z1=0:=by rw[ae HZ1,if_neg (fun h=>h.2.elim h1 h2)]
 clear HZ1
 go_wp2_with fail
 refine (ae SGH _ _ (ae H18)).mono ?_
 rintro e w1 ⟨rfl,hb⟩
 replace HB:=af ((ae HB).trans' hb)
 replace RR:=af ((ae RR).but hb)
 replace FF:=af ((ae FF).but hb)
 replace H18:=af ((ae H18).but hb)
 replace QB:=af ((ae QB).but hb)
 clear hb
 go_wp2_with fail
 refine (ae I1H _).mono ?_
 rintro e w2 ⟨b2,rfl,h2,hb⟩
 replace HB:=af ((ae HB).trans' hb)
 replace RR:=af ((ae RR).but hb)
 replace FF:=af ((ae FF).but hb)
 replace H18:=af ((ae H18).but hb)
 replace QB:=af ((ae QB).but hb)
 have H2:=af (h2)
 clear h2 hb
 go_wp2_with fail
 refine (ae CMH _ _ _ (ae H18) (ae H2)).mono ?_
 rintro e w3 ⟨rfl,hb⟩
 replace HB:=af ((ae HB).trans' hb)
 replace RR:=af ((ae RR).but hb)
 replace FF:=af ((ae FF).but hb)
 replace H18:=af ((ae H18).but hb)
 replace QB:=af ((ae QB).but hb)
 clear hb H2
 obtain⟨k0,k1⟩:=ae QB
 go_wp2_with fail
 refine (ae PFH _).mono ?_
 rintro e w4 ⟨rfl,hb⟩
 replace HB:=af ((ae HB).trans' hb)
 replace RR:=af ((ae RR).but hb)
 replace FF:=af ((ae FF).but hb)
 replace H18:=af ((ae H18).but hb)
 replace QB:=af ((ae QB).but hb)
 clear hb k0 k1
 go_wp2_with fail
 refine (ae QUH _ _ (ae HB) (ae FF)).mono ?_
 rintro e w5 ⟨rfl,hb⟩
 replace HB:=af ((ae HB).trans' hb)
 replace RR:=af ((ae RR).but hb)
 replace FF:=af ((ae FF).but hb)
 replace H18:=af ((ae H18).but hb)
 replace QB:=af ((ae QB).but hb)
 clear hb QUH
 go_wp2_with fail
 refine (ae RQH (by simp) _ _ _ (ae RR) (ae H18)).mono ?_
 rintro e w6 ⟨rfl,hb⟩
 replace HB:=af ((ae HB).trans' hb)
 replace RR:=af ((ae RR).but hb)
 replace FF:=af ((ae FF).but hb)
 replace H18:=af ((ae H18).but hb)
 replace QB:=af ((ae QB).but hb)
 clear hb RQH BKH
 go_wp2_with fail
 refine (ae TQH _ (ae HB)).mono ?_
 rintro e w7 ⟨rfl,hb⟩
 replace HB:=af ((ae HB).trans' hb)
 replace RR:=af ((ae RR).but hb)
 replace FF:=af ((ae FF).but hb)
 replace H18:=af ((ae H18).but hb)
 replace QB:=af ((ae QB).but hb)
 clear hb TQH
 go_upto_if 120 with fail
 go_cut [8] (fun s8 wx=>s8=.bool false∧wx=w7)
 case first =>(
 go_wp2_with fail
 go_meet
 exact⟨rfl,rfl⟩)
 case rest =>(
 obtain⟨rfl,rfl⟩:=hcut
 rename ∀ a w,Code.wp _ _ _ a w→_=>hK
 refine hK _ _ ?_
 exact zxo w _ fs vr vl 0 HB RR FF (.inl rfl) fo wd5 u5 v5 sg cc ch g5 b16 b18 QB H18 s5 x5 y5 p5 evW evS evL fw fst gl z2 z3 z4 (by first | exact HZ2 | exact af (by simpa using ae HZ2)) (by first | exact HZ3 | exact af (by simpa using ae HZ3)) (by first | exact HZ4 | exact af (by simpa using ae HZ4)) SGH I1H CMH PFH WOH RWH ON3H SOH RSH ON4H LAH RLH LWH _ _ _ _ _ _ _ _ _ _ _ _ _ _ _ _ _ _ _ _ _ _ _ _ _ _ _ _ _ _ _ _ _ _ _ _ _ _ _ _ _ _ _ _ _ _ _ _ _ _ _ _ _ _ _ _ _ _ _ _ _ _ _ _ _ _ _ _ _ _ _ _ _ _ _ _ _ _ _ _ _ _ _ _ _ _ _ _ _ _ _ _ _ _ _ _ _ _ _ _ _ _ _ _ _ _ _ _ _ _ _ _ _ _ _ _ _ _ _ _ _ _ _ _ _ _ _ _ _ _ _ _ _ _ _ _ _ _ _ _ _ _ _ _ _ _ _ _ _ _ _ _ _ _ _ _ _ _ _ _ _ _ _ _ _ _ _ _ _ _ _ _ _ _ _ _ _ _ _ _ _ _ _ _ _ _ _ _ _ _ _ _ _ _ _ _ _ _ _ _))))
 ·(
 have hne:¬ z=0:=fun h=>by rw[h] at hz;simp at hz
 obtain rfl:z1=z:=by rw[ae HZ1,if_neg (fun h=>hne h.1)]
 clear HZ1 
 obtain⟨k0,k1⟩:=ae QB
 go_wp2_with fail
 refine (ae PFH _).mono ?_
 rintro e w4 ⟨rfl,hb⟩
 replace HB:=af ((ae HB).trans' hb)
 replace RR:=af ((ae RR).but hb)
 replace FF:=af ((ae FF).but hb)
 replace H18:=af ((ae H18).but hb)
 replace QB:=af ((ae QB).but hb)
 clear hb k0 k1
 go_wp2_with fail
 refine (ae QUH _ _ (ae HB) (ae FF)).mono ?_
 rintro e w5 ⟨rfl,hb⟩
 replace HB:=af ((ae HB).trans' hb)
 replace RR:=af ((ae RR).but hb)
 replace FF:=af ((ae FF).but hb)
 replace H18:=af ((ae H18).but hb)
 replace QB:=af ((ae QB).but hb)
 clear hb QUH
 obtain rfl:kq=0:=ae BKH (by first | decide | exact hne)
 clear RQH BKH
 go_wp2_with fail
 refine (ae TQH _ (ae HB)).mono ?_
 rintro e w7 ⟨rfl,hb⟩
 replace HB:=af ((ae HB).trans' hb)
 replace RR:=af ((ae RR).but hb)
 replace FF:=af ((ae FF).but hb)
 replace H18:=af ((ae H18).but hb)
 replace QB:=af ((ae QB).but hb)
 clear hb TQH
 go_upto_if 120 with fail
 go_cut [8] (fun s8 wx=>s8=.bool false∧wx=w7)
 case first =>(
 go_wp2_with fail
 go_meet
 exact⟨rfl,rfl⟩)
 case rest =>(
 obtain⟨rfl,rfl⟩:=hcut
 rename ∀ a w,Code.wp _ _ _ a w→_=>hK
 refine hK _ _ ?_
 exact zxo w _ fs vr vl _ HB RR FF (.inr hz) fo wd5 u5 v5 sg cc ch g5 b16 b18 QB H18 s5 x5 y5 p5 evW evS evL fw fst gl z2 z3 z4 (by first | exact HZ2 | exact af (by simpa using ae HZ2)) (by first | exact HZ3 | exact af (by simpa using ae HZ3)) (by first | exact HZ4 | exact af (by simpa using ae HZ4)) SGH I1H CMH PFH WOH RWH ON3H SOH RSH ON4H LAH RLH LWH _ _ _ _ _ _ _ _ _ _ _ _ _ _ _ _ _ _ _ _ _ _ _ _ _ _ _ _ _ _ _ _ _ _ _ _ _ _ _ _ _ _ _ _ _ _ _ _ _ _ _ _ _ _ _ _ _ _ _ _ _ _ _ _ _ _ _ _ _ _ _ _ _ _ _ _ _ _ _ _ _ _ _ _ _ _ _ _ _ _ _ _ _ _ _ _ _ _ _ _ _ _ _ _ _ _ _ _ _ _ _ _ _ _ _ _ _ _ _ _ _ _ _ _ _ _ _ _ _ _ _ _ _ _ _ _ _ _ _ _ _ _ _ _ _ _ _ _ _ _ _ _ _ _ _ _ _ _ _ _ _ _ _ _ _ _ _ _ _ _ _ _ _ _ _ _ _ _ _ _ _ _ _ _ _ _ _ _ _ _ _ _ _ _ _ _ _ _ _ _)))
theorem qcm (a:Option Addr) (n c0:Nat) (fo wd5 u5 v5:Int) (w:World) (h:60<n∧n≤201∨230<n) :
   Calls prog 7 #[.slice a n c0,.agg #[.int .i64 u5,.int .i64 v5],.int .i64 fo,.int .i64 wd5] w fun e w'=>e=.returned (.bool true)∧But [] w w':=by(
 have hx:(60<n∧n≤201)∨(60<n∧¬ n≤201∧230<n):=by omega
 clear h
 rcases hx with ⟨h1,h2⟩|⟨h1,h2,h3⟩
 all_goals(
 go_enter func7,ntmps7
 go_wp2
 go_ret
 exact⟨rfl,(But.refl _ _).alloc _⟩))
theorem qhi (a:Option Addr) (n c0:Nat) (fs:List Rat) (z:Int) (hn:n≤60∨201<n∧n≤230) (hz:z=0∨(z==0)=false) (fo wd5 u5 v5 sg cc:Int) (kq:Int) (ch:Rat) (s5:Bool) (x5 y5:Int) (p5:Option Addr) (evM evQ evW evS evL:Value) (fm fv fw fst:Rat) (gl:List Rat) (z1 z2 z3 z4:Int) (hz1:z1=if z=0∧(sg≤0∨0<cc) then 2 else z) (hz2:z2=if z=0∧(sg<0∨0≤cc) then 2 else z) (hz3:z3=if z=0∧(fo<0∨200<fo) then 2 else z) (hz4:z4=if z3=0∧(wd5<0∨200<wd5) then 2 else z3) (w:World) (LI:∀ W,But [] w W→Calls prog 15 #[.slice a n c0] W fun e w'=>∃ v,e=.returned v∧zn w' v fs∧But [] W w') (PL:∀ W,But [] w W→Calls prog 18 #[.slice a n c0] W fun e w'=>∃ v,e=.returned v∧au w' v fs∧But [] W w') (LC:∀ W v,zn W v fs→Calls prog 29 #[v] W fun e w'=>e=.returned (.int .i64 z)∧But [] W w') (ME:∀ W v,But [] w W→au W v fs→Calls prog 39 #[v] W fun e w'=>∃ t:FZ,e=.returned (.tuple #[.agg #[.bool t.1,.int .u64 t.2.1,.int .u64 t.2.2.1,.pointer t.2.2.2],evM])∧aq w' (.agg #[.bool t.1,.int .u64 t.2.1,.int .u64 t.2.2.1,.pointer t.2.2.2]) fm∧But [] W w') (VA:∀ W v,But [] w W→au W v fs→Calls prog 40 #[v] W fun e w'=>∃ t:FZ,e=.returned (.tuple #[.agg #[.bool t.1,.int .u64 t.2.1,.int .u64 t.2.2.1,.pointer t.2.2.2],evM])∧aq w' (.agg #[.bool t.1,.int .u64 t.2.1,.int .u64 t.2.2.1,.pointer t.2.2.2]) fv∧But [] W w') (I0:∀ W,Calls prog 19 #[.int .i64 0] W fun e w'=>∃ b,e=.returned (.pointer (some ⟨b,0,none⟩))∧ze w' b (((0:Int):Rat))∧But [] W w') (RM:z=0→∀ W v,zn W v fs→Calls prog 41 #[v] W fun e w'=>∃ b,e=.returned (.pointer (some ⟨b,0,none⟩))∧ze w' b fm∧But [] W w') (RV:z=0→∀ W v,zn W v fs→Calls prog 42 #[v] W fun e w'=>∃ b,e=.returned (.pointer (some ⟨b,0,none⟩))∧ze w' b fv∧But [] W w') (CK:∀ W v,But [] w W→au W v fs→Calls prog 43 #[v] W fun e w'=>e=.returned (evM)∧But [] W w') (TM:∀ W,But [] w W→Calls prog 10 #[evM] W fun e w'=>e=.returned (.int .i64 z)∧But [] W w') (ON1:∀ W v x,But [] w W→aq W v fm→(z=0→ze W x fm)→Calls prog 21 #[v,evM,.pointer (some ⟨x,0,none⟩),.int .i64 z] W fun e w'=>e=.returned (.bool true)∧But [] W w') (ON2:∀ W v x,But [] w W→aq W v fv→(z=0→ze W x fv)→Calls prog 21 #[v,evM,.pointer (some ⟨x,0,none⟩),.int .i64 z] W fun e w'=>e=.returned (.bool true)∧But [] W w') (RO:∀ W,Calls prog 14 #[.agg #[.int .i64 u5,.int .i64 v5]] W fun e w'=>∃ b,e=.returned (.pointer (some ⟨b,0,none⟩))∧ze w' b ch∧But [] W w') (SG:∀ W x,ze W x ch→Calls prog 44 #[.pointer (some ⟨x,0,none⟩)] W fun e w'=>e=.returned (.int .i64 sg)∧But [] W w') (I1:∀ W,Calls prog 19 #[.int .i64 1] W fun e w'=>∃ b,e=.returned (.pointer (some ⟨b,0,none⟩))∧ze w' b (((1:Int):Rat))∧But [] W w') (CM:∀ W x y,ze W x ch→ze W y (((1:Int):Rat))→Calls prog 22 #[.pointer (some ⟨x,0,none⟩),.pointer (some ⟨y,0,none⟩)] W fun e w'=>e=.returned (.int .i64 cc)∧But [] W w') (PF:∀ W,Calls prog 9 #[.agg #[.int .i64 u5,.int .i64 v5]] W fun e w'=>e=.returned (.agg #[.bool s5,.int .u64 x5,.int .u64 y5,.pointer p5])∧But [] W w') (QU:∀ W v,But [] w W→au W v fs→Calls prog 45 #[v,.agg #[.bool s5,.int .u64 x5,.int .u64 y5,.pointer p5]] W fun e w'=>e=.returned (.tuple #[.int .i64 kq,evQ])∧But [] W w') (RQ:z1=0→∀ W v x,zn W v fs→ze W x ch→Calls prog 46 #[v,.pointer (some ⟨x,0,none⟩)] W fun e w'=>e=.returned (.int .i64 kq)∧But [] W w') (BK:z1≠0→kq=0) (TQ:∀ W,But [] w W→Calls prog 10 #[evQ] W fun e w'=>e=.returned (.int .i64 z1)∧But [] W w') (WO:∀ W v,But [] w W→au W v fs→Calls prog 47 #[v,.agg #[.bool s5,.int .u64 x5,.int .u64 y5,.pointer p5]] W fun e w'=>∃ t:FZ,e=.returned (.tuple #[.agg #[.bool t.1,.int .u64 t.2.1,.int .u64 t.2.2.1,.pointer t.2.2.2],evW])∧aq w' (.agg #[.bool t.1,.int .u64 t.2.1,.int .u64 t.2.2.1,.pointer t.2.2.2]) fw∧But [] W w') (RW:z2=0→∀ W v x,zn W v fs→ze W x ch→Calls prog 48 #[v,.pointer (some ⟨x,0,none⟩)] W fun e w'=>∃ b,e=.returned (.pointer (some ⟨b,0,none⟩))∧ze w' b fw∧But [] W w') (ON3:∀ W v x,But [] w W→aq W v fw→(z2=0→ze W x fw)→Calls prog 21 #[v,evW,.pointer (some ⟨x,0,none⟩),.int .i64 z2] W fun e w'=>e=.returned (.bool true)∧But [] W w') (SO:∀ W v,But [] w W→au W v fs→Calls prog 49 #[v,.int .i64 fo] W fun e w'=>∃ t:FZ,e=.returned (.tuple #[.agg #[.bool t.1,.int .u64 t.2.1,.int .u64 t.2.2.1,.pointer t.2.2.2],evS])∧aq w' (.agg #[.bool t.1,.int .u64 t.2.1,.int .u64 t.2.2.1,.pointer t.2.2.2]) fst∧But [] W w') (RS:z3=0→∀ W v,zn W v fs→Calls prog 50 #[v,.int .i64 fo] W fun e w'=>∃ b,e=.returned (.pointer (some ⟨b,0,none⟩))∧ze w' b fst∧But [] W w') (ON4:∀ W v x,But [] w W→aq W v fst→(z3=0→ze W x fst)→Calls prog 21 #[v,evS,.pointer (some ⟨x,0,none⟩),.int .i64 z3] W fun e w'=>e=.returned (.bool true)∧But [] W w') (LA:∀ W v,But [] w W→au W v fs→Calls prog 51 #[v,.int .i64 fo,.int .i64 wd5] W fun e w'=>∃ v,e=.returned (.tuple #[v,evL])∧zcl w' z4 gl v∧But [] W w') (RL:z4=0→∀ W v,zn W v fs→Calls prog 52 #[v,.int .i64 fo,.int .i64 wd5] W fun e w'=>∃ v,e=.returned v∧zn w' v gl∧But [] W w') (LW:∀ W v x,But [] w W→zcl W z4 gl v→(z4=0→zn W x gl)→Calls prog 53 #[v,evL,x,.int .i64 z4] W fun e w'=>e=.returned (.bool true)∧But [] W w') :
   Calls prog 7 #[.slice a n c0,.agg #[.int .i64 u5,.int .i64 v5],.int .i64 fo,.int .i64 wd5] w fun e w'=>e=.returned (.bool true)∧But [] w w':=by(
 have LIH:=af LI
 have PLH:=af PL
 have LCH:=af LC
 have MEH:=af ME
 have VAH:=af VA
 have I0H:=af I0
 have RMH:=af RM
 have RVH:=af RV
 have CKH:=af CK
 have TMH:=af TM
 have ON1H:=af ON1
 have ON2H:=af ON2
 have ROH:=af RO
 have SGH:=af SG
 have I1H:=af I1
 have CMH:=af CM
 have PFH:=af PF
 have QUH:=af QU
 have RQH:=af RQ
 have BKH:=af BK
 have TQH:=af TQ
 have WOH:=af WO
 have RWH:=af RW
 have ON3H:=af ON3
 have SOH:=af SO
 have RSH:=af RS
 have ON4H:=af ON4
 have LAH:=af LA
 have RLH:=af RL
 have LWH:=af LW
 have HZ1:=af hz1
 have HZ2:=af hz2
 have HZ3:=af hz3
 have HZ4:=af hz4
 clear LI PL LC ME VA I0 RM RV CK TM ON1 ON2 RO SG I1 CM PF QU RQ BK TQ WO RW ON3 SO RS ON4 LA RL LW hz1 hz2 hz3 hz4
 obtain⟨W1,hW1⟩:∃ W1,W1=w.alloc (.cells #[.int .i64 u5,.int .i64 v5] 23):=⟨_,rfl⟩
 obtain⟨g5,hg5⟩:∃ g,g=w.heap.size:=⟨_,rfl⟩
 have QB:Hid (qbm W1 g5 u5 v5):=by
  show _∧_
  rw[hW1,hg5]
  exact⟨by simp,by simp⟩
 have HB:Hid (But [] w W1):=by
  rw[hW1]
  exact (But.refl _ _).alloc _
 have HW1:=af hW1
 clear hW1
 have hgg:(n≤60∧¬ 60<n∧¬ 230<n)∨(60<n∧¬ n≤201∧¬ 230<n):=by omega
 clear hn
 go_enter func7,ntmps7
 rcases hgg with ⟨q1,q2,q3⟩|⟨q1,q2,q3⟩
 all_goals(
 go_wp2_with fail
 rw[← ae HW1,← hg5]
 clear HW1 hg5
 refine (ae PLH _ (ae HB)).mono ?_
 rintro e w1 ⟨vl,rfl,h1,hb⟩
 replace HB:=af ((ae HB).trans' hb)
 replace QB:=af ((ae QB).but hb)
 have FF:=af (h1)
 clear h1 hb PLH
 go_wp2_with fail
 refine (ae LIH _ (ae HB)).mono ?_
 rintro e w2 ⟨vr,rfl,h2,hb⟩
 replace HB:=af ((ae HB).trans' hb)
 replace QB:=af ((ae QB).but hb)
 replace FF:=af ((ae FF).but hb)
 have RR:=af (h2)
 clear h2 hb LIH
 go_wp2_with fail
 refine (ae LCH _ _ (ae RR)).mono ?_
 rintro e w3 ⟨rfl,hb⟩
 replace HB:=af ((ae HB).trans' hb)
 replace QB:=af ((ae QB).but hb)
 replace FF:=af ((ae FF).but hb)
 replace RR:=af ((ae RR).but hb)
 clear hb LCH
 go_wp2_with fail
 refine (ae MEH _ _ (ae HB) (ae FF)).mono ?_
 rintro e w4 ⟨⟨s1,x1,y1,p1⟩,rfl,hf,hb⟩
 dsimp only
 have hA:But [] w4 (w4.alloc (.cells #[.bool s1,.int .u64 x1,.int .u64 y1,.pointer p1] 27)):=(But.refl _ _).alloc _
 replace HB:=af (((ae HB).trans' hb).trans' hA)
 replace RR:=af ((ae RR).but (hb.trans' hA))
 replace FF:=af ((ae FF).but (hb.trans' hA))
 replace QB:=af ((ae QB).but (hb.trans' hA))
 have HF1:=af (hf.but hA)
 have KHF1:Hid (P4 (w4.alloc (.cells #[.bool s1,.int .u64 x1,.int .u64 y1,.pointer p1] 27)) w4.heap.size s1 x1 y1 p1):=⟨by simp,by simp,by simp,by simp⟩
 clear hf hb hA MEH
 go_wp2_with fail
 generalize w4.heap.size=g12 at *
 generalize w4.alloc (.cells #[.bool s1,.int .u64 x1,.int .u64 y1,.pointer p1] 27)=V4 at *
 refine (ae VAH _ _ (ae HB) (ae FF)).mono ?_
 rintro e w5 ⟨⟨s2,x2,y2,p2⟩,rfl,hf,hb⟩
 dsimp only
 have hA:But [] w5 (w5.alloc (.cells #[.bool s2,.int .u64 x2,.int .u64 y2,.pointer p2] 27)):=(But.refl _ _).alloc _
 replace HB:=af (((ae HB).trans' hb).trans' hA)
 replace RR:=af ((ae RR).but (hb.trans' hA))
 replace FF:=af ((ae FF).but (hb.trans' hA))
 replace QB:=af ((ae QB).but (hb.trans' hA))
 replace HF1:=af ((ae HF1).but (hb.trans' hA))
 replace KHF1:=af ((ae KHF1).but (hb.trans' hA) (by simp))
 have HF2:=af (hf.but hA)
 have KHF2:Hid (P4 (w5.alloc (.cells #[.bool s2,.int .u64 x2,.int .u64 y2,.pointer p2] 27)) w5.heap.size s2 x2 y2 p2):=⟨by simp,by simp,by simp,by simp⟩
 clear hf hb hA VAH
 go_wp2_with fail
 generalize w5.heap.size=g14 at *
 generalize w5.alloc (.cells #[.bool s2,.int .u64 x2,.int .u64 y2,.pointer p2] 27)=V5 at *
 refine (ae I0H _).mono ?_
 rintro e w6 ⟨b6,rfl,h6,hb⟩
 replace HB:=af ((ae HB).trans' hb)
 replace RR:=af ((ae RR).but hb)
 replace FF:=af ((ae FF).but hb)
 replace QB:=af ((ae QB).but hb)
 replace HF1:=af ((ae HF1).but hb)
 replace HF2:=af ((ae HF2).but hb)
 replace KHF1:=af ((ae KHF1).but hb (by simp))
 replace KHF2:=af ((ae KHF2).but hb (by simp))
 clear h6 hb
 go_wp2_with fail
 refine (ae I0H _).mono ?_
 rintro e w7 ⟨b7,rfl,h7,hb⟩
 replace HB:=af ((ae HB).trans' hb)
 replace RR:=af ((ae RR).but hb)
 replace FF:=af ((ae FF).but hb)
 replace QB:=af ((ae QB).but hb)
 replace HF1:=af ((ae HF1).but hb)
 replace HF2:=af ((ae HF2).but hb)
 replace KHF1:=af ((ae KHF1).but hb (by simp))
 replace KHF2:=af ((ae KHF2).but hb (by simp))
 clear h7 hb I0H
 rcases hz with rfl | hz
 ·(
 skip
 go_wp2_with fail
 refine (ae RMH (by simp) _ _ (ae RR)).mono ?_
 rintro e w8 ⟨b8,rfl,h8,hb⟩
 replace HB:=af ((ae HB).trans' hb)
 replace RR:=af ((ae RR).but hb)
 replace FF:=af ((ae FF).but hb)
 replace QB:=af ((ae QB).but hb)
 replace HF1:=af ((ae HF1).but hb)
 replace HF2:=af ((ae HF2).but hb)
 replace KHF1:=af ((ae KHF1).but hb (by simp))
 replace KHF2:=af ((ae KHF2).but hb (by simp))
 have H8:=af (h8)
 clear h8 hb RMH
 go_wp2_with fail
 refine (ae RVH (by simp) _ _ (ae RR)).mono ?_
 rintro e w9 ⟨b9,rfl,h9,hb⟩
 replace HB:=af ((ae HB).trans' hb)
 replace RR:=af ((ae RR).but hb)
 replace FF:=af ((ae FF).but hb)
 replace QB:=af ((ae QB).but hb)
 replace HF1:=af ((ae HF1).but hb)
 replace HF2:=af ((ae HF2).but hb)
 replace H8:=af ((ae H8).but hb)
 replace KHF1:=af ((ae KHF1).but hb (by simp))
 replace KHF2:=af ((ae KHF2).but hb (by simp))
 have H9:=af (h9)
 clear h9 hb RVH
 go_wp2_with fail
 refine (ae CKH _ _ (ae HB) (ae FF)).mono ?_
 rintro e wa ⟨rfl,hb⟩
 replace HB:=af ((ae HB).trans' hb)
 replace RR:=af ((ae RR).but hb)
 replace FF:=af ((ae FF).but hb)
 replace QB:=af ((ae QB).but hb)
 replace HF1:=af ((ae HF1).but hb)
 replace HF2:=af ((ae HF2).but hb)
 replace H8:=af ((ae H8).but hb)
 replace H9:=af ((ae H9).but hb)
 replace KHF1:=af ((ae KHF1).but hb (by simp))
 replace KHF2:=af ((ae KHF2).but hb (by simp))
 clear hb CKH
 go_wp2_with fail
 refine (ae TMH _ (ae HB)).mono ?_
 rintro e wb ⟨rfl,hb⟩
 replace HB:=af ((ae HB).trans' hb)
 replace RR:=af ((ae RR).but hb)
 replace FF:=af ((ae FF).but hb)
 replace QB:=af ((ae QB).but hb)
 replace HF1:=af ((ae HF1).but hb)
 replace HF2:=af ((ae HF2).but hb)
 replace H8:=af ((ae H8).but hb)
 replace H9:=af ((ae H9).but hb)
 replace KHF1:=af ((ae KHF1).but hb (by simp))
 replace KHF2:=af ((ae KHF2).but hb (by simp))
 clear hb TMH
 obtain⟨m0,m1,m2,m3⟩:=ae KHF1
 go_wp2_with fail
 refine (ae ON1H _ _ b8 (ae HB) (ae HF1) (fun _=>ae H8)).mono ?_
 rintro e wc ⟨rfl,hb⟩
 replace HB:=af ((ae HB).trans' hb)
 replace RR:=af ((ae RR).but hb)
 replace FF:=af ((ae FF).but hb)
 replace QB:=af ((ae QB).but hb)
 replace HF2:=af ((ae HF2).but hb)
 replace H9:=af ((ae H9).but hb)
 replace KHF2:=af ((ae KHF2).but hb (by simp))
 clear hb ON1H HF1 KHF1 m0 m1 m2 m3 H8
 obtain⟨m0,m1,m2,m3⟩:=ae KHF2
 go_wp2_with fail
 refine (ae ON2H _ _ b9 (ae HB) (ae HF2) (fun _=>ae H9)).mono ?_
 rintro e wd ⟨rfl,hb⟩
 replace HB:=af ((ae HB).trans' hb)
 replace RR:=af ((ae RR).but hb)
 replace FF:=af ((ae FF).but hb)
 replace QB:=af ((ae QB).but hb)
 clear hb ON2H HF2 KHF2 m0 m1 m2 m3 H9
 go_upto_if 83 with fail
 go_cut [8] (fun s8 wx=>s8=.bool false∧wx=wd)
 case first =>(
 go_wp2_with fail
 go_meet
 exact⟨rfl,rfl⟩)
 case rest =>(
 obtain⟨rfl,rfl⟩:=hcut
 rename ∀ a w,Code.wp _ _ _ a w→_=>hK
 refine hK _ _ ?_
 exact qiu w _ fs vr vl 0 HB RR FF (.inl rfl) fo wd5 u5 v5 sg cc kq ch g5 b8 QB s5 x5 y5 p5 evQ evW evS evL fw fst gl z1 z2 z3 z4 (by first | exact HZ1 | exact af (by simpa using ae HZ1)) (by first | exact HZ2 | exact af (by simpa using ae HZ2)) (by first | exact HZ3 | exact af (by simpa using ae HZ3)) (by first | exact HZ4 | exact af (by simpa using ae HZ4)) ROH SGH I1H CMH PFH QUH RQH BKH TQH WOH RWH ON3H SOH RSH ON4H LAH RLH LWH _ _ _ _ _ _ _ _ _ _ _ _ _ _ _ _ _ _ _ _ _ _ _ _ _ _ _ _ _ _ _ _ _ _ _ _ _ _ _ _ _ _ _ _ _ _ _ _ _ _ _ _ _ _ _ _ _ _ _ _ _ _ _ _ _ _ _ _ _ _ _ _ _ _ _ _ _ _ _ _ _ _ _ _ _ _ _ _ _ _ _ _ _ _ _ _ _ _ _ _ _ _ _ _ _ _ _ _ _ _ _ _ _ _ _ _ _ _ _ _ _ _ _ _ _ _ _ _ _ _ _ _ _ _ _ _ _ _ _ _ _ _ _ _ _ _ _ _ _ _ _ _ _ _ _ _ _ _ _ _ _ _ _ _ _ _ _ _ _ _ _ _ _ _ _ _ _ _ _ _ _ _ _ _ _ _ _ _ _ _ _ _ _ _ _ _ _ _ _ _ _))
 ·(
 have hne:¬ z=0:=fun h=>by rw[h] at hz;simp at hz
 go_wp2_with fail
 refine (ae CKH _ _ (ae HB) (ae FF)).mono ?_
 rintro e wa ⟨rfl,hb⟩
 replace HB:=af ((ae HB).trans' hb)
 replace RR:=af ((ae RR).but hb)
 replace FF:=af ((ae FF).but hb)
 replace QB:=af ((ae QB).but hb)
 replace HF1:=af ((ae HF1).but hb)
 replace HF2:=af ((ae HF2).but hb)
 replace KHF1:=af ((ae KHF1).but hb (by simp))
 replace KHF2:=af ((ae KHF2).but hb (by simp))
 clear hb CKH
 go_wp2_with fail
 refine (ae TMH _ (ae HB)).mono ?_
 rintro e wb ⟨rfl,hb⟩
 replace HB:=af ((ae HB).trans' hb)
 replace RR:=af ((ae RR).but hb)
 replace FF:=af ((ae FF).but hb)
 replace QB:=af ((ae QB).but hb)
 replace HF1:=af ((ae HF1).but hb)
 replace HF2:=af ((ae HF2).but hb)
 replace KHF1:=af ((ae KHF1).but hb (by simp))
 replace KHF2:=af ((ae KHF2).but hb (by simp))
 clear hb TMH
 obtain⟨m0,m1,m2,m3⟩:=ae KHF1
 go_wp2_with fail
 refine (ae ON1H _ _ b6 (ae HB) (ae HF1) (fun h=>absurd h hne)).mono ?_
 rintro e wc ⟨rfl,hb⟩
 replace HB:=af ((ae HB).trans' hb)
 replace RR:=af ((ae RR).but hb)
 replace FF:=af ((ae FF).but hb)
 replace QB:=af ((ae QB).but hb)
 replace HF2:=af ((ae HF2).but hb)
 replace KHF2:=af ((ae KHF2).but hb (by simp))
 clear hb ON1H HF1 KHF1 m0 m1 m2 m3 RMH RVH
 obtain⟨m0,m1,m2,m3⟩:=ae KHF2
 go_wp2_with fail
 refine (ae ON2H _ _ b7 (ae HB) (ae HF2) (fun h=>absurd h hne)).mono ?_
 rintro e wd ⟨rfl,hb⟩
 replace HB:=af ((ae HB).trans' hb)
 replace RR:=af ((ae RR).but hb)
 replace FF:=af ((ae FF).but hb)
 replace QB:=af ((ae QB).but hb)
 clear hb ON2H HF2 KHF2 m0 m1 m2 m3
 go_upto_if 83 with fail
 go_cut [8] (fun s8 wx=>s8=.bool false∧wx=wd)
 case first =>(
 go_wp2_with fail
 go_meet
 exact⟨rfl,rfl⟩)
 case rest =>(
 obtain⟨rfl,rfl⟩:=hcut
 rename ∀ a w,Code.wp _ _ _ a w→_=>hK
 refine hK _ _ ?_
 exact qiu w _ fs vr vl z HB RR FF (.inr hz) fo wd5 u5 v5 sg cc kq ch g5 b6 QB s5 x5 y5 p5 evQ evW evS evL fw fst gl z1 z2 z3 z4 (by first | exact HZ1 | exact af (by simpa using ae HZ1)) (by first | exact HZ2 | exact af (by simpa using ae HZ2)) (by first | exact HZ3 | exact af (by simpa using ae HZ3)) (by first | exact HZ4 | exact af (by simpa using ae HZ4)) ROH SGH I1H CMH PFH QUH RQH BKH TQH WOH RWH ON3H SOH RSH ON4H LAH RLH LWH _ _ _ _ _ _ _ _ _ _ _ _ _ _ _ _ _ _ _ _ _ _ _ _ _ _ _ _ _ _ _ _ _ _ _ _ _ _ _ _ _ _ _ _ _ _ _ _ _ _ _ _ _ _ _ _ _ _ _ _ _ _ _ _ _ _ _ _ _ _ _ _ _ _ _ _ _ _ _ _ _ _ _ _ _ _ _ _ _ _ _ _ _ _ _ _ _ _ _ _ _ _ _ _ _ _ _ _ _ _ _ _ _ _ _ _ _ _ _ _ _ _ _ _ _ _ _ _ _ _ _ _ _ _ _ _ _ _ _ _ _ _ _ _ _ _ _ _ _ _ _ _ _ _ _ _ _ _ _ _ _ _ _ _ _ _ _ _ _ _ _ _ _ _ _ _ _ _ _ _ _ _ _ _ _ _ _ _ _ _ _ _ _ _ _ _ _ _ _ _ _))))
end Go.Proofs.YtagmkkiagjmimaaGreatDoor
