/- What the law FracSays needs besides: an  -/
import Derived.Deep.CutBlock
import Derived.Deep.DeepCutAuto
import Derived.Test.YteipfplbcbaheaaGreatDoorIHJ
import Derived.Test.YteipfplbcbaheaaGreatDoorIHY
import Derived.Test.YteipfplbcbaheaaGreatDoorILX
import Derived.Test.YteipfplbcbaheaaGreatDoorIQ8
import Derived.Test.YteipfplbcbaheaaGreatDoorIQ9
namespace Go.Proofs.YteipfplbcbaheaaGreatDoor
open Go.RowKit
set_option maxHeartbeats 4000000
def SaysSt (w cur:World) (g9 g10:Nat) (fs gs:Bool) (fx fy gx gy:Int) (xb yb:Nat) (f g:Rat):Prop:=But [] w cur∧P4 cur g9 fs fx fy none∧P4 cur g10 gs gx gy none∧RatIs cur xb f∧RatIs cur yb g
theorem SaysSt.step {w cur cur':World} {g9 g10:Nat} {fs gs:Bool} {fx fy gx gy:Int} {xb yb:Nat} {f g:Rat} (h:SaysSt w cur g9 g10 fs gs fx fy gx gy xb yb f g) (hb:But [] cur cur'):SaysSt w cur' g9 g10 fs gs fx fy gx gy xb yb f g :=
 ⟨h.1.trans' hb,h.2.1.but hb (by simp),h.2.2.1.but hb (by simp),h.2.2.2.1.but hb,h.2.2.2.2.but hb⟩
def OneOk (w:World) (v ev:Value) (e:Int) (x:Rat):Prop:=(0<e∧e<100∧v=.agg #[.bool false,.int .u64 0,.int .u64 0,.pointer none]∧ev=.iface 35 (.int .i64 e))∨(e=0∧ev=.nilIface∧FracAt w v x)
theorem OneOk.but {w w':World} {v ev:Value} {e:Int} {x:Rat} (h:OneOk w v ev e x) (hb:But [] w w'):OneOk w' v ev e x:=by
 rcases h with h | ⟨h1,h2,h3⟩
 ·exact .inl h
 ·exact .inr ⟨h1,h2,h3.but hb⟩
theorem OneOk.agg {w:World} {v ev:Value} {e:Int} {x:Rat} (h:OneOk w v ev e x):∃ s y z p,v=.agg #[.bool s,.int .u64 y,.int .u64 z,.pointer p]:=by
 rcases h with ⟨-,-,h,-⟩ | ⟨-,-,h⟩
 ·exact ⟨_,_,_,_,h⟩
 ·obtain ⟨y,z,p,e,-⟩:=h.agg
  exact ⟨_,y,z,p,e⟩
theorem one_any (v ev:Value) (e:Int) (x:Rat) (zb:Nat) (w:World) (h:OneOk w v ev e x) (lx:e=0→Len x 1000) (hz:e=0→RatIs w zb x) (htab:Lib.TabIs Tryz.prog w "internal/strconv.uint64pow10" .u64 Lib.pow10Tab) (hg:w.cell? ⟨1,0,none⟩=some (.iface 235 (.agg #[.pointer (some ⟨8,32,none⟩)]))) :
  Calls Tryz.prog 20 #[v,ev,.pointer (some ⟨zb,0,none⟩),.int .i64 e] w fun e w'=>e=.returned (.bool true)∧But [] w w':=by
 rcases h with ⟨h1,h2,rfl,rfl⟩ | ⟨rfl,rfl,h⟩
 ·exact one_err _ e h1 h2 w htab hg
 ·exact one_ok v x zb w h (lx rfl) (hz rfl) htab
theorem num_ne (g:Rat) (h:g.num≠0):g≠0:=fun e=>h (by rw [e];rfl)
theorem says_len (f g:Rat) (lf:Len f 1) (lg:Len g 1):Len (f/g) 2:=by
 by_cases h0:g.num=0
 ·have e:g=0:=Rat.num_eq_zero.1 h0
  have e2:f/g=0:=by rw [e,Rat.div_def,Rat.inv_zero,Rat.mul_zero]
  rw [e2]
  exact ⟨by show (wd 18446744073709551616 0).length≤_;rw [wd_zero];simp,Nat.le_trans (wd_length_le (B:=18446744073709551616) (by omega) 1 1 (by omega)) (by omega)⟩
 ·rw [Rat.div_def]
  exact len_mul lf (len_inv lg h0) 2 (by omega)
theorem div_back (f g:Rat) (h:g.num≠0):f/g*g=f:=by
 have h1:=Rat.mul_inv_cancel g (num_ne g h)
 rw [Rat.div_def]
 grind
theorem div_both (xb yb:Nat) (f g:Rat) (W:World) (hx:RatIs W xb f) (hy:RatIs W yb g) (Lf:LenU f 2) (Lg:LenU g 2) :
  Calls Tryz.prog 21 #[.pointer (some ⟨xb,0,none⟩),.pointer (some ⟨yb,0,none⟩)] W fun e w'=>∃ v',e=.returned v'∧DivV f g w' v'∧But [] W w':=by
 by_cases h0:g.num=0
 ·exact (refDivZ_any xb yb g W hy (Lg.mono (by omega)) h0).mono (fun e w' h=>by
   obtain ⟨zb,h1,h2⟩:=h
   exact ⟨_,h1,⟨zb,rfl,fun k=>absurd h0 k⟩,h2⟩)
 ·exact (refDivU_any xb yb f g (f/g) W hx hy (Lf.mono (by omega)) (Lg.mono (by omega)) h0 (div_back f g h0)).mono (fun e w' h=>by
   obtain ⟨zb,h1,h2,h3,-⟩:=h
   exact ⟨_,h1,⟨zb,rfl,fun _=>h3⟩,h2⟩)
theorem tell_nil (w:World):Calls Tryz.prog 35 #[.nilIface] w fun e w'=>e=.returned (.int .i64 0)∧But [] w w':=by
 go_enter Tryz.func35,Tryz.ntmps35
 go_wp2
 go_ret
 exact ⟨rfl,But.refl _ _⟩
theorem one_tell (v ev:Value) (e:Int) (x:Rat) (w:World) (h:OneOk w v ev e x) (hg:w.cell? ⟨1,0,none⟩=some (.iface 235 (.agg #[.pointer (some ⟨8,32,none⟩)]))) :
  Calls Tryz.prog 35 #[ev] w fun r w'=>r=.returned (.int .i64 e)∧But [] w w':=by
 rcases h with ⟨-,-,-,rfl⟩ | ⟨rfl,rfl,-⟩
 ·exact tell_errno e w hg
 ·exact tell_nil w
theorem len_rpow (f:Rat) (hp:f.num.natAbs < 18446744073709551616) (hq:f.den < 18446744073709551616) (k:Nat):Len (rpow f k) (k+1):=by
 obtain ⟨h1,h2⟩:=rpow_parts f k
 constructor
 ·rw [h1,Int.natAbs_pow]
  exact wd_length_le (B:=18446744073709551616) (by omega) _ (k+1) (Nat.lt_of_le_of_lt (Nat.pow_le_pow_left (Nat.le_of_lt hp) k) (Nat.pow_lt_pow_right (by omega) (by omega)))
 ·rw [h2]
  exact wd_length_le (B:=18446744073709551616) (by omega) _ (k+1) (Nat.lt_of_le_of_lt (Nat.pow_le_pow_left (Nat.le_of_lt hq) k) (Nat.pow_lt_pow_right (by omega) (by omega)))
theorem rpow_back (f:Rat) (h:f.num≠0) (k:Nat):rpow f⁻¹ k*rpow f k=1:=by
 have h1:=Rat.mul_inv_cancel f (num_ne f h)
 induction k with
 | zero=>exact Rat.mul_one 1
 | succ k ih =>
  show rpow f⁻¹ k*f⁻¹*(rpow f k*f)=1
  have:rpow f⁻¹ k*f⁻¹*(rpow f k*f)=(rpow f⁻¹ k*rpow f k)*(f*f⁻¹):=by grind
  rw [this,ih,h1,Rat.mul_one]
def powE (f:Rat) (n:Int):Int:=if n < -200∨200<n then 4 else if n<0∧f.num=0 then 11 else 0
def powX (f:Rat) (n:Int):Rat:=if n<0 then rpow f⁻¹ n.natAbs else rpow f n.natAbs
theorem pow_any (fs:Bool) (fx fy n:Int) (f:Rat) (hf:∀ W,FracAt W (.agg #[.bool fs,.int .u64 fx,.int .u64 fy,.pointer none]) f) (lf:Len f 1) (hp:f.num.natAbs < 18446744073709551616) (hq:f.den < 18446744073709551616) (hn:-9223372036854775808≤n∧n<9223372036854775808) (W:World) :
  Calls Tryz.prog 22 #[.agg #[.bool fs,.int .u64 fx,.int .u64 fy,.pointer none],.int .i64 n] W fun e w'=>∃ v ev,e=.returned (.tuple #[v,ev])∧OneOk w' v ev (powE f n) (powX f n)∧But [] W w':=by
 unfold powE powX
 by_cases h1:n < -200∨200<n
 ·rw [if_pos h1]
  exact (fracPow_limit fs fx fy n hn.1 hn.2 h1 W).mono (fun e w' h=>⟨_,_,h.1,.inl ⟨by omega,by omega,rfl,rfl⟩,h.2⟩)
 ·rw [if_neg h1]
  by_cases h2:n<0
  ·by_cases h3:f.num=0
   ·rw [if_pos ⟨h2,h3⟩]
    exact (fracPow_none fs fx fy n f hf h3 (by omega) h2 W).mono (fun e w' h=>⟨_,_,h.1,.inl ⟨by omega,by omega,rfl,rfl⟩,h.2⟩)
   ·rw [if_neg (fun h=>h3 h.2),if_pos h2]
    have e:-((n.natAbs:Nat):Int)=n:=by omega
    have hd:=fracPow_down _ f n.natAbs W (hf W) h3 (by omega) (by omega) (lf.mono (by omega)) hp hq
    rw [e] at hd
    exact hd.mono (fun e w' h=>by
     obtain ⟨v,k1,k2,k3⟩:=h
     exact ⟨v,_,k1,.inr ⟨rfl,rfl,k2⟩,k3⟩)
  ·rw [if_neg (fun h=>h2 h.1),if_neg h2]
   have e:((n.natAbs:Nat):Int)=n:=by omega
   have hd:=fracPow_up _ f n.natAbs W (hf W) (by omega) (lf.mono (by omega))
   rw [e] at hd
   exact hd.mono (fun e w' h=>by
    obtain ⟨v,k1,k2,k3⟩:=h
    exact ⟨v,_,k1,.inr ⟨rfl,rfl,k2⟩,k3⟩)
theorem powX_len (f:Rat) (n:Int) (hp:f.num.natAbs < 18446744073709551616) (hq:f.den < 18446744073709551616) (h:powE f n=0):Len (powX f n) 1000:=by
 unfold powE at h
 split at h
 ·omega
 ·split at h
  ·omega
  ·rename_i h1 h2
   unfold powX
   split
   ·rename_i h3
    obtain ⟨i1,i2,-⟩:=inv_facts f (fun e=>h2 ⟨h3,e⟩)
    exact (len_rpow f⁻¹ (by rw [i1];exact hq) (by rw [i2];exact hp) n.natAbs).mono (by omega)
   ·exact (len_rpow f hp hq n.natAbs).mono (by omega)
theorem txt_int (z:Int):fracTxt (decide (((z:Int):Rat).num<0)) ((z:Int):Rat).num.natAbs ((z:Int):Rat).den=⟨(decI z).toArray⟩:=by
 rw [txt_same,(int_num z).1,(int_num z).2,ratTxt,if_pos rfl]
theorem dec_det {n k:Nat} {s:Bool} {t t':ByteArray} (h:DecTxt n k s t) (h':DecTxt n k s t'):t=t':=nba_ext (Eq.trans h h'.symm)
theorem nearI_abs (x:Rat):(nearI x).natAbs≤x.num.natAbs+1:=by
 have:=fl_le_abs x
 unfold nearI
 split <;> omega
theorem num_le_of (f:Rat) (p q:Int) (hq:q≠0) (h:f.num*q=p*(f.den:Int)):f.num.natAbs≤p.natAbs:=by
 have h1:=congrArg Int.natAbs h
 obtain ⟨e1,e2⟩:=red_rat p q hq f h
 rw [e1,redN_abs]
 split <;> first | exact Nat.div_le_self _ _ | (rw [Int.natAbs_neg];exact Nat.div_le_self _ _)
theorem cmp_same (x y:Int):cmpZ x y=cmpS x y:=rfl
theorem zero_sub' (f:Rat):(0:Rat)-f=-f:=by rw [Rat.sub_eq_add_neg,Rat.zero_add]
theorem nearI_len (q:Rat) (h:Len q 2):Len ((nearI q:Int):Rat) 3:=by
 have h1:=lt_of_wd_length (B:=18446744073709551616) (by omega) _ 2 h.1
 have h2:=nearI_abs q
 constructor
 ·rw [(int_num _).1]
  exact wd_length_le (B:=18446744073709551616) (by omega) _ 3 (by omega)
 ·rw [(int_num _).2]
  exact wd_length_le (B:=18446744073709551616) (by omega) _ 3 (by omega)
end Go.Proofs.YteipfplbcbaheaaGreatDoor

namespace Go.Proofs.YteipfplbcbaheaaGreatDoor
open Go.RowKit
set_option maxHeartbeats 32000000
set_option maxRecDepth 100000
def tailOf:Nat→Code→Code
 | 0,c=>c
 | n+1,.seq _ b=>tailOf n b
 | _+1,c=>c
noncomputable def saysBody:Code:=(Tryz.f3.body).getD .skip
def SaysF (fs:Bool) (fx fy:Int) (f:Rat):Prop:=(∀ W,FracAt W (.agg #[.bool fs,.int .u64 fx,.int .u64 fy,.pointer none]) f)∧Len f 1∧f.num.natAbs < 18446744073709551616∧f.den < 18446744073709551616∧LenU f 2∧f.num.natAbs≤9223372036854775808
theorem says_end (w W:World) (g9 g10:Nat) (fs gs:Bool) (fx fy gx gy:Int) (xb yb:Nat) (f g:Rat) (n p:Int) (g18:Nat) (rs:Bool) (rx ry:Int) (rp:Option Addr) (re:Value) (eR:Int) (xR:Rat) (ST:Hid (SaysSt w W g9 g10 fs gs fx fy gx gy xb yb f g)) (HF:Hid (SaysF fs fx fy f)) (HGF:Hid (SaysF gs gx gy g)) (HT:Hid (Lib.TabIs Tryz.prog w "internal/strconv.uint64pow10" .u64 Lib.pow10Tab)) (HG:Hid (w.cell? ⟨1,0,none⟩=some (.iface 235 (.agg #[.pointer (some ⟨8,32,none⟩)])))) (hp:-9223372036854775808≤p∧p<9223372036854775808) (KR:Hid (P4 W g18 rs rx ry rp∧OneOk W (.agg #[.bool rs,.int .u64 rx,.int .u64 ry,.pointer rp]) re eR xR)) (HER:Hid (((g.num≤0∧eR=1)∨(0<g.num∧eR=0))∧xR=nearR (f*g⁻¹)*g)) (q0 q1 q4 q5 q6 q7 q8 q13 q16 q17 q19 q20 q21 q22 q23 q24 q25 q26 q27 q28 q29 q30 q31 q32 q33 q34 q35 q36 q37 q38 q39 q40 q41 q42 q43 q44 q45 q46 q47 q48 q49 q50 q51 q52 q53 q54 q55 q56 q57 q58 q59 q60 q61 q62 q63 q64 q65 q66 q67 q68 q69 q70 q71 q72 q73 q74 q75 q76 q77 q78 q79 q80 q81 q82 q83 q84 q85 q86 q87 q88 q89 q90 q91 q92 q93 q94 q95 q96 q97 q98 q99 q100 q101 q102 q103 q104 q105 q106 q107 q108 q109 q110 q111 q112 q113 q114 q115 q116 q117 q118 q119 q120 q121 q122 q123 q124 q125 q126 q127 q128 q129 q130 q131 q132 q133 q134 q135 q136 q137 q138 q139 q140 q141 q142 q143 q144 q145 q146 q147 q148 q149 q150 q151 q152 q153 q154 q155 q156 q157 q158 q159 q160 q161 q162 q163 q164 q165 q166 q167 q168 q169 q170 q171 q172 q173 q174 q175 q176 q177 q178 q179 q180 q181 q182 q183 q184 q185 q186 q187 q188 q189 q190 q191 q192 q193 q194 q195 q196 q197 q198 q199 q200 q201 q202 q203 q204 q205 q206 q207 q208 q209 q210 q211 q212 q213 q214 q215 q216 q217 q218 q219 q220 q221 q222 q223 q224 q225 q226 q227 q228 q229 q230 q231 q232 q233 q234 q235 q236 q237 q238 q239 q240 q241 q242 q243 q244 q245 q246 q247 q248 q249 q250 q251 q252 q253 q254:Value) :
  Code.wp Tryz.prog (tailOf 15 saysBody) (bodyPost Tryz.prog Tryz.f3 fun e w'=>e=.returned (.bool true)∧But [] w w') { tmps:=(q0::q1::.int .i64 n::.int .i64 p::q4::q5::q6::q7::q8::.pointer (some ⟨g9,0,none⟩)::.pointer (some ⟨g10,0,none⟩)::.pointer (some ⟨xb,0,none⟩)::.pointer (some ⟨yb,0,none⟩)::q13::re::.int .i64 eR::q16::q17::.pointer (some ⟨g18,0,none⟩)::q19::q20::q21::q22::q23::q24::q25::q26::q27::q28::q29::q30::q31::q32::q33::q34::q35::q36::q37::q38::q39::q40::q41::q42::q43::q44::q45::q46::q47::q48::q49::q50::q51::q52::q53::q54::q55::q56::q57::q58::q59::q60::q61::q62::q63::q64::q65::q66::q67::q68::q69::q70::q71::q72::q73::q74::q75::q76::q77::q78::q79::q80::q81::q82::q83::q84::q85::q86::q87::q88::q89::q90::q91::q92::q93::q94::q95::q96::q97::q98::q99::q100::q101::q102::q103::q104::q105::q106::q107::q108::q109::q110::q111::q112::q113::q114::q115::q116::q117::q118::q119::q120::q121::q122::q123::q124::q125::q126::q127::q128::q129::q130::q131::q132::q133::q134::q135::q136::q137::q138::q139::q140::q141::q142::q143::q144::q145::q146::q147::q148::q149::q150::q151::q152::q153::q154::q155::q156::q157::q158::q159::q160::q161::q162::q163::q164::q165::q166::q167::q168::q169::q170::q171::q172::q173::q174::q175::q176::q177::q178::q179::q180::q181::q182::q183::q184::q185::q186::q187::q188::q189::q190::q191::q192::q193::q194::q195::q196::q197::q198::q199::q200::q201::q202::q203::q204::q205::q206::q207::q208::q209::q210::q211::q212::q213::q214::q215::q216::q217::q218::q219::q220::q221::q222::q223::q224::q225::q226::q227::q228::q229::q230::q231::q232::q233::q234::q235::q236::q237::q238::q239::q240::q241::q242::q243::q244::q245::q246::q247::q248::q249::q250::q251::q252::q253::q254::[]).toArray,defers:=[] } W:=by
 conv=>arg 2;whnf
 have TB:Hid (∀ W,SaysSt w W g9 g10 fs gs fx fy gx gy xb yb f g→Lib.TabIs Tryz.prog W "internal/strconv.uint64pow10" .u64 Lib.pow10Tab):=fun W h=>TabIs.but (unhide HT) h.1
 have GB:Hid (∀ W,SaysSt w W g9 g10 fs gs fx fy gx gy xb yb f g→W.cell? ⟨1,0,none⟩=some (.iface 235 (.agg #[.pointer (some ⟨8,32,none⟩)]))):=fun W h=>h.1.cell_some (unhide HG) (by simp)
 obtain ⟨FF,lf,hpf,hqf,Lf,h63⟩:=unhide HF
 obtain ⟨GG,lg,hpg,hqg,Lg,-⟩:=unhide HGF
 have DIVR:Hid (∀ W,SaysSt w W g9 g10 fs gs fx fy gx gy xb yb f g→Calls Tryz.prog 21 #[.pointer (some ⟨xb,0,none⟩),.pointer (some ⟨yb,0,none⟩)] W fun e w'=>∃ v',e=.returned v'∧DivV f g w' v'∧But [] W w'):=fun W h=>div_both xb yb f g W h.2.2.2.1 h.2.2.2.2 Lf Lg
 have lq:=says_len f g lf lg
 have Lq:LenU (f/g) 4:=lenU_len lq
 have lni:=nearI_len (f/g) lq
 have lx:Len ((nearI (f/g):Int)*g:Rat) 4:=len_mul lni lg 4 (by omega)
 obtain ⟨xQ,hxQ⟩:∃ xQ:Rat,xQ=(nearI (f/g):Int)*g:=⟨_,rfl⟩
 rw [← hxQ] at lx
 have hxR:xR=xQ:=by rw [(unhide HER).2,hxQ,← Rat.div_def,nearR_int]
 obtain ⟨tR,htR⟩:∃ tR,tR=fracTxt (decide (xQ.num<0)) xQ.num.natAbs xQ.den:=⟨_,rfl⟩
 have TXR:Hid (∀ v,FracAt W v xQ→Calls Tryz.prog 12 #[v] W fun e w'=>e=.returned (.string tR)∧But [] W w'):=fun v k=>fracText_len v xQ W k (lx.mono (by omega)) (unhide TB W (unhide ST)) tR htR
 have NEA:=hide (fun W a (h:RatIs W a (f/g))=>refNearest_any a (f/g) 4 W h Lq (by omega))
 have WHO:=hide (fun W a (h:IntAt W a 0 (nearI (f/g)))=>refWhole_any a (nearI (f/g)) W h (by have:=(lenU_len lni).1;rw [(int_num _).1] at this;omega))
 have MUL:Hid (∀ W a,SaysSt w W g9 g10 fs gs fx fy gx gy xb yb f g→RatIs W a ((nearI (f/g):Int):Rat)→Calls Tryz.prog 19 #[.pointer (some ⟨yb,0,none⟩),.pointer (some ⟨a,0,none⟩)] W fun e w'=>∃ zb,e=.returned (.pointer (some ⟨zb,0,none⟩))∧But [] W w'∧RatIs w' zb xQ):=fun W a h k=>(refMul_any yb a g ((nearI (f/g):Int):Rat) W h.2.2.2.2 k (Lg.mono (by omega)) ((lenU_len lni).mono (by omega))).mono (fun e w' k=>by
  obtain ⟨zb,k1,k2,k3,-⟩:=k
  exact ⟨zb,k1,k2,by rw [hxQ,Rat.mul_comm];exact k3⟩)
 have RTR:Hid (∀ W a,RatIs W a xQ→Calls Tryz.prog 13 #[.pointer (some ⟨a,0,none⟩)] W fun e w'=>e=.returned (.string tR)∧But [] W w'):=fun W a k=>refText_any a xQ W k ((lenU_len lx).mono (by omega)) tR (Eq.trans htR (txt_same _))
 rw [hxR] at KR
 have TEL:Hid (∀ W',But [] W W'→SaysSt w W' g9 g10 fs gs fx fy gx gy xb yb f g→Calls Tryz.prog 35 #[re] W' fun e w'=>e=.returned (.int .i64 eR)∧But [] W' w'):=fun W' hb h=>one_tell _ re eR xQ W' ((unhide KR).2.but hb) (unhide GB W' h)
 have HQ:=hide hxR
 have HER2:=hide (unhide HER).1
 have ST0:=ST
 clear hxR hxQ lq Lq lni lx htR FF GG lf lg hpf hqf hpg hqg Lf Lg h63 HER HQ
 go_upto_region 25 with fail
 go_cut [191] (fun s191 wx=>s191=.bool false∧Hid (But [] W wx))
 case first =>
  rcases unhide HER2 with ⟨-,e2⟩ | ⟨hg0,e2⟩
  ·subst e2
   clear HER2 DIVR TXR NEA WHO MUL RTR KR
   go_wp2_with fail
   refine (unhide TEL _ (But.refl _ _) (unhide ST)).mono ?_
   rintro e wn ⟨rfl,hb⟩
   dsimp only
   have HB:=hide hb
   clear hb TEL
   go_wp2_with fail
   go_meet
   exact ⟨rfl,unhide HB⟩
  ·subst e2
   have B0:Hid (But [] W W):=But.refl _ _
   have HG0:=hide hg0
   have FR:Hid (FracAt W (.agg #[.bool rs,.int .u64 rx,.int .u64 ry,.pointer rp]) xQ):=by
    rcases (unhide KR).2 with ⟨h,-⟩ | ⟨-,-,h⟩
    ·omega
    ·exact h
   obtain ⟨c0,c1,c2,c3⟩:=(unhide KR).1
   clear HER2 KR hg0
   go_wp2_with fail
   refine (unhide TXR _ (unhide FR)).mono ?_
   rintro e wn ⟨rfl,hb⟩
   dsimp only
   replace ST:=hide ((unhide ST).step hb)
   replace B0:=hide ((unhide B0).trans' hb)
   clear hb TXR FR c0 c1 c2 c3
   go_wp2_with fail
   refine (unhide DIVR _ (unhide ST)).mono ?_
   rintro e wn ⟨v',rfl,⟨z1,rfl,hz⟩,hb⟩
   dsimp only
   replace ST:=hide ((unhide ST).step hb)
   replace B0:=hide ((unhide B0).trans' hb)
   have HZ:=hide (hz (by have:=unhide HG0;omega))
   clear hb DIVR hz
   go_wp2_with fail
   refine (unhide NEA _ z1 (unhide HZ)).mono ?_
   rintro e wn ⟨z2,rfl,hb,hz⟩
   dsimp only
   replace ST:=hide ((unhide ST).step hb)
   replace B0:=hide ((unhide B0).trans' hb)
   have HI:=hide hz
   clear hb hz NEA HZ
   go_wp2_with fail
   refine (unhide WHO _ z2 (unhide HI)).mono ?_
   rintro e wn ⟨z3,rfl,hb,hz⟩
   dsimp only
   replace ST:=hide ((unhide ST).step hb)
   replace B0:=hide ((unhide B0).trans' hb)
   have HZ:=hide hz
   clear hb hz WHO HI
   go_wp2_with fail
   refine (unhide MUL _ z3 (unhide ST) (unhide HZ)).mono ?_
   rintro e wn ⟨z4,rfl,hb,hz⟩
   dsimp only
   replace ST:=hide ((unhide ST).step hb)
   replace B0:=hide ((unhide B0).trans' hb)
   have HZ4:=hide hz
   clear hb hz MUL HZ
   go_wp2_with fail
   refine (unhide RTR _ z4 (unhide HZ4)).mono ?_
   rintro e wn ⟨rfl,hb⟩
   dsimp only
   replace ST:=hide ((unhide ST).step hb)
   replace B0:=hide ((unhide B0).trans' hb)
   clear hb RTR HZ4
   go_wp2_with fail
   refine (unhide TEL _ (unhide B0) (unhide ST)).mono ?_
   rintro e wn ⟨rfl,hb⟩
   dsimp only
   replace ST:=hide ((unhide ST).step hb)
   replace B0:=hide ((unhide B0).trans' hb)
   clear hb TEL
   go_wp2_with fail
   go_meet
   exact ⟨rfl,unhide B0⟩
 case rest =>
  obtain ⟨rfl,HC⟩:=hcut
  replace ST:=hide ((unhide ST0).step (unhide HC))
  clear HC ST0 HER2 DIVR TXR NEA WHO MUL RTR KR TEL
  obtain ⟨FF,lf,hpf,hqf,Lf,h63⟩:=unhide HF
  by_cases hd:p<0∨18<p
  ·have DEC:=hide (fun W=>decimal_err fs fx fy p hp.1 hp.2 hd W)
   have TE2:Hid (∀ W,SaysSt w W g9 g10 fs gs fx fy gx gy xb yb f g→Calls Tryz.prog 35 #[.iface 35 (.int .i64 2)] W fun e w'=>e=.returned (.int .i64 2)∧But [] W w'):=fun W h=>tell_errno 2 W (unhide GB W h)
   clear FF lf hpf hqf Lf h63
   obtain ⟨c0,c1,c2,c3⟩:=(unhide ST).2.1
   go_wp2_with fail
   refine (unhide DEC _).mono ?_
   rintro e wn ⟨rfl,hb⟩
   dsimp only
   replace ST:=hide ((unhide ST).step hb)
   clear hb c0 c1 c2 c3 DEC
   rcases hd with hd | hd
   ·skip
    go_wp2_with fail
    refine (unhide TE2 _ (unhide ST)).mono ?_
    rintro e wn ⟨rfl,hb⟩
    dsimp only
    replace ST:=hide ((unhide ST).step hb)
    clear hb TE2
    go_wp2_with fail
    go_ret
    exact ⟨rfl,(unhide ST).1⟩
   ·have hd2:¬ p<0:=by omega
    go_wp2_with fail
    refine (unhide TE2 _ (unhide ST)).mono ?_
    rintro e wn ⟨rfl,hb⟩
    dsimp only
    replace ST:=hide ((unhide ST).step hb)
    clear hb TE2
    go_wp2_with fail
    go_ret
    exact ⟨rfl,(unhide ST).1⟩
  ·obtain ⟨k,rfl⟩:∃ k:Nat,p=(k:Int):=⟨p.toNat,by omega⟩
   have hk:k≤18:=by omega
   obtain ⟨N,hN⟩:∃ N,N=nearI (f*(((10^k:Nat):Int):Rat)):=⟨_,rfl⟩
   have hP1:10^k≤1000000000000000000:=Nat.pow_le_pow_right (by omega) hk (n:=10)
   have lP:Len (((10^k:Nat):Int):Rat) 1:=⟨by rw [(int_num _).1,Int.natAbs_natCast];exact wd_length_le (B:=18446744073709551616) (by omega) _ 1 (by generalize 10^k=x at *;omega),by rw [(int_num _).2];exact wd_length_le (B:=18446744073709551616) (by omega) _ 1 (by omega)⟩
   have lp:=len_mul lf lP 2 (by omega)
   have hNb:N.natAbs<10^42:=by
    have h1:=num_le_of (f*(((10^k:Nat):Int):Rat)) (f.num*((10^k:Nat):Int)) (f.den:Int) (by have:=den_pos f;omega) (by
     have:=cross_mul f (((10^k:Nat):Int):Rat)
     rw [(int_num _).1,(int_num _).2,Nat.mul_one] at this
     exact this)
    have h2:=nearI_abs (f*(((10^k:Nat):Int):Rat))
    rw [Int.natAbs_mul,Int.natAbs_natCast] at h1
    have h3:f.num.natAbs*10^k≤18446744073709551616*1000000000000000000:=Nat.mul_le_mul (by omega) hP1
    rw [← hN] at h2
    have h4:(10:Nat)^42=1000000000000000000000000000000000000000000:=by decide
    rw [h4]
    generalize f.num.natAbs*10^k=x at *
    omega
   have DEC:Hid (∀ W,SaysSt w W g9 g10 fs gs fx fy gx gy xb yb f g→Calls Tryz.prog 36 #[.agg #[.bool fs,.int .u64 fx,.int .u64 fy,.pointer none],.int .i64 (k:Int)] W fun e w'=>∃ t,e=.returned (.tuple #[.string t,.nilIface])∧DecTxt N.natAbs k (decide (N<0)) t∧But [] W w'):=fun W h=>decimal_any _ f k N W (FF W) hk (lf.mono (by omega)) (lp.mono (by omega)) (by rw [hN];exact nearR_int _) hNb (unhide TB W h)
   have REF:Hid (∀ W,SaysSt w W g9 g10 fs gs fx fy gx gy xb yb f g→Calls Tryz.prog 38 #[.pointer (some ⟨xb,0,none⟩),.int .i64 (k:Int)] W fun e w'=>∃ t,e=.returned (.string t)∧DecTxt N.natAbs k (decide (N<0)) t∧But [] W w'):=fun W h=>refDecimal_any xb f k N W h.2.2.2.1 Lf hk hN hNb
   have hk0:¬ (k:Int)<0:=by omega
   have hk1:¬ 18<(k:Int):=by omega
   obtain ⟨tX,htX⟩:∃ tX,tX=fracTxt (decide (f.num<0)) f.num.natAbs f.den:=⟨_,rfl⟩
   have RTX:Hid (∀ W a,RatIs W a f→Calls Tryz.prog 13 #[.pointer (some ⟨a,0,none⟩)] W fun e w'=>e=.returned (.string tX)∧But [] W w'):=fun W a k=>refText_any a f W k (Lf.mono (by omega)) tX (Eq.trans htX (txt_same _))
   have ISI:Hid (∀ W b,b=decide (f.den=1)→SaysSt w W g9 g10 fs gs fx fy gx gy xb yb f g→Calls Tryz.prog 39 #[.pointer (some ⟨xb,0,none⟩)] W fun e w'=>e=.returned (.bool b)∧But [] W w'):=fun W b hb h=>by
    rw [hb]
    exact ratIsIntU_any xb f.num f.den W h.2.2.2.1 (den_pos f) (by have:=Lf.2;omega)
   have NUM:Hid (∀ W,SaysSt w W g9 g10 fs gs fx fy gx gy xb yb f g→Calls Tryz.prog 40 #[.pointer (some ⟨xb,0,none⟩)] W fun e w'=>e=.returned (.pointer (some ⟨xb,0,none⟩))∧But [] W w'):=fun W h=>(ratNumU_any xb f.num (f.den:Int) W h.2.2.2.1).mono (fun e w' k=>⟨k.1,by rw [k.2];exact But.refl _ _⟩)
   have I64:Hid (∀ W b,b=decide (f.num<9223372036854775808)→SaysSt w W g9 g10 fs gs fx fy gx gy xb yb f g→Calls Tryz.prog 41 #[.pointer (some ⟨xb,0,none⟩)] W fun e w'=>e=.returned (.bool b)∧But [] W w'):=fun W b hb h=>(isInt64_any xb 0 f.num W h.2.2.2.1.1 h63 b hb).mono (fun e w' k=>⟨k.1,by rw [k.2];exact But.refl _ _⟩)
   have INT:=hide (fun W z ok hok hz=>fracInt_any f (.agg #[.bool fs,.int .u64 fx,.int .u64 fy,.pointer none]) W (FF W) hpf hqf z ok hok hz)
   have H63:=hide h63
   clear hN hP1 lP lp hNb hd hk htX FF lf hpf hqf Lf h63
   obtain ⟨c0,c1,c2,c3⟩:=(unhide ST).2.1
   go_wp2_with fail
   refine (unhide DEC _ (unhide ST)).mono ?_
   rintro e wn ⟨t,rfl,ht,hb⟩
   dsimp only
   replace ST:=hide ((unhide ST).step hb)
   have HD:=hide ht
   clear hb ht c0 c1 c2 c3 DEC
   by_cases hi:f.den=1
   ·by_cases hm:f.num<9223372036854775808
    ·have HOK:Hid (true=(decide (f.den=1) && decide (-9223372036854775808≤f.num) && decide (f.num<9223372036854775808))):=by
      have h1:-9223372036854775808≤f.num:=by have:=unhide H63;omega
      show true=_
      rw [decide_eq_true hi,decide_eq_true h1,decide_eq_true hm];rfl
     have HZK:Hid (f.num=if true=true then f.num else 0):=by show f.num=_;rw [if_pos rfl]
     have HB1:Hid (true=decide (f.den=1)):=(decide_eq_true hi).symm
     have HB2:Hid (true=decide (f.num<9223372036854775808)):=(decide_eq_true hm).symm
     have IN9:=hide (fun W=>refInt_any f.num W (by have:=unhide H63;omega) hm)
     have HQ9:Hid (∀ W a,RatAt W a f.num 1→RatIs W a f):=fun W a h=>by show RatAt W a f.num f.den;rw [hi];exact h
     clear hi hm
     obtain ⟨c0,c1,c2,c3⟩:=(unhide ST).2.1
     go_wp2_with fail
     refine (unhide INT _ f.num true (unhide HOK) (unhide HZK)).mono ?_
     rintro e wn ⟨rfl,hb⟩
     dsimp only
     replace ST:=hide ((unhide ST).step hb)
     clear hb c0 c1 c2 c3 INT HOK HZK
     go_wp2_with fail
     refine (unhide REF _ (unhide ST)).mono ?_
     rintro e wn ⟨t',rfl,ht,hb⟩
     dsimp only
     replace ST:=hide ((unhide ST).step hb)
     have HD2:=hide ht
     clear hb ht REF
     obtain rfl:=dec_det (unhide HD2) (unhide HD)
     clear HD HD2
     go_wp2_with fail
     refine (unhide ISI _ true (unhide HB1) (unhide ST)).mono ?_
     rintro e wn ⟨rfl,hb⟩
     dsimp only
     replace ST:=hide ((unhide ST).step hb)
     clear hb ISI HB1
     go_wp2_with fail
     refine (unhide NUM _ (unhide ST)).mono ?_
     rintro e wn ⟨rfl,hb⟩
     dsimp only
     replace ST:=hide ((unhide ST).step hb)
     clear hb NUM
     go_wp2_with fail
     refine (unhide I64 _ true (unhide HB2) (unhide ST)).mono ?_
     rintro e wn ⟨rfl,hb⟩
     dsimp only
     replace ST:=hide ((unhide ST).step hb)
     clear hb I64 HB2
     go_wp2_with fail
     refine (unhide IN9 _).mono ?_
     rintro e wn ⟨z9,rfl,hb,hz⟩
     dsimp only
     replace ST:=hide ((unhide ST).step hb)
     have HZ9:=hide hz
     clear hb hz IN9
     go_wp2_with fail
     refine (unhide RTX _ z9 (unhide HQ9 _ z9 (unhide HZ9))).mono ?_
     rintro e wn ⟨rfl,hb⟩
     dsimp only
     replace ST:=hide ((unhide ST).step hb)
     clear hb HZ9 HQ9
     go_wp2_with fail
     refine (unhide RTX _ xb (unhide ST).2.2.2.1).mono ?_
     rintro e wn ⟨rfl,hb⟩
     dsimp only
     replace ST:=hide ((unhide ST).step hb)
     clear hb RTX
     go_wp2_with fail
     go_ret
     exact ⟨rfl,(unhide ST).1⟩
    ·have HOK:Hid (false=(decide (f.den=1) && decide (-9223372036854775808≤f.num) && decide (f.num<9223372036854775808))):=by
      show false=_
      rw [decide_eq_false hm,Bool.and_false]
     have HZK:Hid ((0:Int)=if false=true then f.num else 0):=by show (0:Int)=_;rw [if_neg (by simp)]
     have HB1:Hid (true=decide (f.den=1)):=(decide_eq_true hi).symm
     have HB2:Hid (false=decide (f.num<9223372036854775808)):=(decide_eq_false hm).symm
     clear hi hm
     obtain ⟨c0,c1,c2,c3⟩:=(unhide ST).2.1
     go_wp2_with fail
     refine (unhide INT _ 0 false (unhide HOK) (unhide HZK)).mono ?_
     rintro e wn ⟨rfl,hb⟩
     dsimp only
     replace ST:=hide ((unhide ST).step hb)
     clear hb c0 c1 c2 c3 INT HOK HZK
     go_wp2_with fail
     refine (unhide REF _ (unhide ST)).mono ?_
     rintro e wn ⟨t',rfl,ht,hb⟩
     dsimp only
     replace ST:=hide ((unhide ST).step hb)
     have HD2:=hide ht
     clear hb ht REF
     obtain rfl:=dec_det (unhide HD2) (unhide HD)
     clear HD HD2
     go_wp2_with fail
     refine (unhide ISI _ true (unhide HB1) (unhide ST)).mono ?_
     rintro e wn ⟨rfl,hb⟩
     dsimp only
     replace ST:=hide ((unhide ST).step hb)
     clear hb ISI HB1
     go_wp2_with fail
     refine (unhide NUM _ (unhide ST)).mono ?_
     rintro e wn ⟨rfl,hb⟩
     dsimp only
     replace ST:=hide ((unhide ST).step hb)
     clear hb NUM
     go_wp2_with fail
     refine (unhide I64 _ false (unhide HB2) (unhide ST)).mono ?_
     rintro e wn ⟨rfl,hb⟩
     dsimp only
     replace ST:=hide ((unhide ST).step hb)
     clear hb I64 HB2
     go_wp2_with fail
     go_ret
     exact ⟨rfl,(unhide ST).1⟩
   ·have HOK:Hid (false=(decide (f.den=1) && decide (-9223372036854775808≤f.num) && decide (f.num<9223372036854775808))):=by
     show false=_
     rw [decide_eq_false hi,Bool.false_and,Bool.false_and]
    have HZK:Hid ((0:Int)=if false=true then f.num else 0):=by show (0:Int)=_;rw [if_neg (by simp)]
    have HB1:Hid (false=decide (f.den=1)):=(decide_eq_false hi).symm
    clear hi
    obtain ⟨c0,c1,c2,c3⟩:=(unhide ST).2.1
    go_wp2_with fail
    refine (unhide INT _ 0 false (unhide HOK) (unhide HZK)).mono ?_
    rintro e wn ⟨rfl,hb⟩
    dsimp only
    replace ST:=hide ((unhide ST).step hb)
    clear hb c0 c1 c2 c3 INT HOK HZK
    go_wp2_with fail
    refine (unhide REF _ (unhide ST)).mono ?_
    rintro e wn ⟨t',rfl,ht,hb⟩
    dsimp only
    replace ST:=hide ((unhide ST).step hb)
    have HD2:=hide ht
    clear hb ht REF
    obtain rfl:=dec_det (unhide HD2) (unhide HD)
    clear HD HD2
    go_wp2_with fail
    refine (unhide ISI _ false (unhide HB1) (unhide ST)).mono ?_
    rintro e wn ⟨rfl,hb⟩
    dsimp only
    replace ST:=hide ((unhide ST).step hb)
    clear hb ISI HB1
    go_wp2_with fail
    go_ret
    exact ⟨rfl,(unhide ST).1⟩
end Go.Proofs.YteipfplbcbaheaaGreatDoor

namespace Go.Proofs.YteipfplbcbaheaaGreatDoor
open Go.RowKit
set_option maxHeartbeats 32000000
set_option maxRecDepth 100000
theorem says_mid (w W:World) (g9 g10:Nat) (fs gs:Bool) (fx fy gx gy:Int) (xb yb:Nat) (f g:Rat) (n p:Int) (g16:Nat) (ps:Bool) (px py:Int) (pp:Option Addr) (pe:Value) (eP:Int) (xP:Rat) (zb:Nat) (ST:Hid (SaysSt w W g9 g10 fs gs fx fy gx gy xb yb f g)) (HF:Hid (SaysF fs fx fy f)) (HGF:Hid (SaysF gs gx gy g)) (HT:Hid (Lib.TabIs Tryz.prog w "internal/strconv.uint64pow10" .u64 Lib.pow10Tab)) (HG:Hid (w.cell? ⟨1,0,none⟩=some (.iface 235 (.agg #[.pointer (some ⟨8,32,none⟩)])))) (hp:-9223372036854775808≤p∧p<9223372036854775808) (K6:Hid (P4 W g16 ps px py pp∧OneOk W (.agg #[.bool ps,.int .u64 px,.int .u64 py,.pointer pp]) pe eP xP∧(eP=0→RatIs W zb xP))) (HEP:Hid (eP=powE f n∧xP=powX f n)) (q0 q1 q4 q5 q6 q7 q8 q13 q18 q19 q20 q21 q22 q23 q24 q25 q26 q27 q28 q29 q30 q31 q32 q33 q34 q35 q36 q37 q38 q39 q40 q41 q42 q43 q44 q45 q46 q47 q48 q49 q50 q51 q52 q53 q54 q55 q56 q57 q58 q59 q60 q61 q62 q63 q64 q65 q66 q67 q68 q69 q70 q71 q72 q73 q74 q75 q76 q77 q78 q79 q80 q81 q82 q83 q84 q85 q86 q87 q88 q89 q90 q91 q92 q93 q94 q95 q96 q97 q98 q99 q100 q101 q102 q103 q104 q105 q106 q107 q108 q109 q110 q111 q112 q113 q114 q115 q116 q117 q118 q119 q120 q121 q122 q123 q124 q125 q126 q127 q128 q129 q130 q131 q132 q133 q134 q135 q136 q137 q138 q139 q140 q141 q142 q143 q144 q145 q146 q147 q148 q149 q150 q151 q152 q153 q154 q155 q156 q157 q158 q159 q160 q161 q162 q163 q164 q165 q166 q167 q168 q169 q170 q171 q172 q173 q174 q175 q176 q177 q178 q179 q180 q181 q182 q183 q184 q185 q186 q187 q188 q189 q190 q191 q192 q193 q194 q195 q196 q197 q198 q199 q200 q201 q202 q203 q204 q205 q206 q207 q208 q209 q210 q211 q212 q213 q214 q215 q216 q217 q218 q219 q220 q221 q222 q223 q224 q225 q226 q227 q228 q229 q230 q231 q232 q233 q234 q235 q236 q237 q238 q239 q240 q241 q242 q243 q244 q245 q246 q247 q248 q249 q250 q251 q252 q253 q254:Value) :
  Code.wp Tryz.prog (tailOf 11 saysBody) (bodyPost Tryz.prog Tryz.f3 fun e w'=>e=.returned (.bool true)∧But [] w w') { tmps:=(q0::q1::.int .i64 n::.int .i64 p::q4::q5::q6::q7::q8::.pointer (some ⟨g9,0,none⟩)::.pointer (some ⟨g10,0,none⟩)::.pointer (some ⟨xb,0,none⟩)::.pointer (some ⟨yb,0,none⟩)::q13::pe::.int .i64 eP::.pointer (some ⟨g16,0,none⟩)::.pointer (some ⟨zb,0,none⟩)::q18::q19::q20::q21::q22::q23::q24::q25::q26::q27::q28::q29::q30::q31::q32::q33::q34::q35::q36::q37::q38::q39::q40::q41::q42::q43::q44::q45::q46::q47::q48::q49::q50::q51::q52::q53::q54::q55::q56::q57::q58::q59::q60::q61::q62::q63::q64::q65::q66::q67::q68::q69::q70::q71::q72::q73::q74::q75::q76::q77::q78::q79::q80::q81::q82::q83::q84::q85::q86::q87::q88::q89::q90::q91::q92::q93::q94::q95::q96::q97::q98::q99::q100::q101::q102::q103::q104::q105::q106::q107::q108::q109::q110::q111::q112::q113::q114::q115::q116::q117::q118::q119::q120::q121::q122::q123::q124::q125::q126::q127::q128::q129::q130::q131::q132::q133::q134::q135::q136::q137::q138::q139::q140::q141::q142::q143::q144::q145::q146::q147::q148::q149::q150::q151::q152::q153::q154::q155::q156::q157::q158::q159::q160::q161::q162::q163::q164::q165::q166::q167::q168::q169::q170::q171::q172::q173::q174::q175::q176::q177::q178::q179::q180::q181::q182::q183::q184::q185::q186::q187::q188::q189::q190::q191::q192::q193::q194::q195::q196::q197::q198::q199::q200::q201::q202::q203::q204::q205::q206::q207::q208::q209::q210::q211::q212::q213::q214::q215::q216::q217::q218::q219::q220::q221::q222::q223::q224::q225::q226::q227::q228::q229::q230::q231::q232::q233::q234::q235::q236::q237::q238::q239::q240::q241::q242::q243::q244::q245::q246::q247::q248::q249::q250::q251::q252::q253::q254::[]).toArray,defers:=[] } W:=by
 conv=>arg 2;whnf
 have TB:Hid (∀ W,SaysSt w W g9 g10 fs gs fx fy gx gy xb yb f g→Lib.TabIs Tryz.prog W "internal/strconv.uint64pow10" .u64 Lib.pow10Tab):=fun W h=>TabIs.but (unhide HT) h.1
 have GB:Hid (∀ W,SaysSt w W g9 g10 fs gs fx fy gx gy xb yb f g→W.cell? ⟨1,0,none⟩=some (.iface 235 (.agg #[.pointer (some ⟨8,32,none⟩)]))):=fun W h=>h.1.cell_some (unhide HG) (by simp)
 obtain ⟨FF,lf,hpf,hqf,Lf,h63⟩:=unhide HF
 obtain ⟨GG,lg,hpg,hqg,Lg,-⟩:=unhide HGF
 obtain ⟨sf,hsf⟩:∃ sf,sf=f.num.sign:=⟨_,rfl⟩
 obtain ⟨r,hr⟩:∃ r,r=cmpZ (f.num*(g.den:Int)) (g.num*(f.den:Int)):=⟨_,rfl⟩
 obtain ⟨tN,htN⟩:∃ tN,tN=fracTxt (decide ((-f).num<0)) (-f).num.natAbs (-f).den:=⟨_,rfl⟩
 obtain ⟨tF,htF⟩:∃ tF,tF=(⟨(decI (fl f)).toArray⟩:ByteArray):=⟨_,rfl⟩
 have ln:Len (-f) 1:=⟨by rw [Rat.neg_num,Int.natAbs_neg];exact lf.1,by rw [Rat.neg_den];exact lf.2⟩
 have ONE:=hide (one_any (.agg #[.bool ps,.int .u64 px,.int .u64 py,.pointer pp]) pe eP xP zb _ (unhide K6).2.1 (fun e=>by rw [(unhide HEP).2];exact powX_len f n hpf hqf (by rw [← (unhide HEP).1];exact e)) (unhide K6).2.2 (unhide TB _ (unhide ST)) (unhide GB _ (unhide ST)))
 have SGN:Hid (∀ W,Calls Tryz.prog 25 #[.agg #[.bool fs,.int .u64 fx,.int .u64 fy,.pointer none]] W fun e w'=>e=.returned (.int .i64 sf)∧But [] W w'):=fun W=>by
  rw [hsf]
  exact fracSign_any _ f W (FF W)
 have SGR:Hid (∀ W,SaysSt w W g9 g10 fs gs fx fy gx gy xb yb f g→Calls Tryz.prog 11 #[.pointer (some ⟨xb,0,none⟩)] W fun e w'=>e=.returned (.int .i64 sf)∧But [] W w'):=fun W h=>(ratSign_any xb f.num (f.den:Int) W h.2.2.2.1 sf hsf (by have:=Lf.1;omega)).mono (fun e w' k=>⟨k.1,by rw [k.2];exact But.refl _ _⟩)
 have CMP:=hide (fun W=>fracCmp_any (.agg #[.bool fs,.int .u64 fx,.int .u64 fy,.pointer none]) (.agg #[.bool gs,.int .u64 gx,.int .u64 gy,.pointer none]) f g W (FF W) (GG W) (lf.mono (by omega)) (lg.mono (by omega)) r hr)
 have RCM:Hid (∀ W,SaysSt w W g9 g10 fs gs fx fy gx gy xb yb f g→Calls Tryz.prog 27 #[.pointer (some ⟨xb,0,none⟩),.pointer (some ⟨yb,0,none⟩)] W fun e w'=>e=.returned (.int .i64 r)∧But [] W w'):=fun W h=>by
  have l1:=Lf.1
  have l2:=Lf.2
  have l3:=Lg.1
  have l4:=Lg.2
  have p1:=lenU_prod f.num (g.den:Int) 2 2 l1 (by rw [Int.natAbs_natCast];exact l4)
  have p2:=lenU_prod g.num (f.den:Int) 2 2 l3 (by rw [Int.natAbs_natCast];exact l2)
  have:=ratCmpU_any xb yb f.num g.num f.den g.den W h.2.2.2.1 h.2.2.2.2 (den_pos f) (den_pos g) (by omega) (by omega) (by omega) (by omega) _ _ rfl rfl (by omega) (by omega)
  rw [← cmp_same,← hr] at this
  exact this
 have NEG:=hide (fun W=>fracNeg_any (.agg #[.bool fs,.int .u64 fx,.int .u64 fy,.pointer none]) f W (FF W))
 have TXN:Hid (∀ W v,SaysSt w W g9 g10 fs gs fx fy gx gy xb yb f g→FracAt W v (-f)→Calls Tryz.prog 12 #[v] W fun e w'=>e=.returned (.string tN)∧But [] W w'):=fun W v h k=>fracText_len v (-f) W k (ln.mono (by omega)) (unhide TB W h) tN htN
 have IN:=hide (fun W=>refInt_any 0 W (by omega) (by omega))
 have SUB:Hid (∀ W a,SaysSt w W g9 g10 fs gs fx fy gx gy xb yb f g→RatAt W a 0 1→Calls Tryz.prog 17 #[.pointer (some ⟨a,0,none⟩),.pointer (some ⟨xb,0,none⟩)] W fun e w'=>∃ zb,e=.returned (.pointer (some ⟨zb,0,none⟩))∧But [] W w'∧RatIs w' zb (-f)):=fun W a h k=>(refSub_any a xb 0 f W k h.2.2.2.1 ⟨by show (wd 4294967296 0).length≤_;rw [wd_zero];simp,by show (wd 4294967296 1).length≤_;exact Nat.le_trans (len_le_two 1 (by omega)) (by omega)⟩ (Lf.mono (by omega))).mono (fun e w' k=>by
  obtain ⟨zb,k1,k2,k3,-⟩:=k
  exact ⟨zb,k1,k2,by rw [zero_sub'] at k3;exact k3⟩)
 have RTN:Hid (∀ W a,RatIs W a (-f)→Calls Tryz.prog 13 #[.pointer (some ⟨a,0,none⟩)] W fun e w'=>e=.returned (.string tN)∧But [] W w'):=fun W a k=>refText_any a (-f) W k ((lenU_len ln).mono (by omega)) tN (Eq.trans htN (txt_same _))
 have FLO:=hide (fun W=>floor_any (.agg #[.bool fs,.int .u64 fx,.int .u64 fy,.pointer none]) f W (FF W) (lf.mono (by omega)))
 have TXF:Hid (∀ W v,SaysSt w W g9 g10 fs gs fx fy gx gy xb yb f g→FracAt W v ((fl f:Int):Rat)→Calls Tryz.prog 12 #[v] W fun e w'=>e=.returned (.string tF)∧But [] W w'):=fun W v h k=>fracText_len v _ W k ((fl_len lf (by omega)).mono (by omega)) (unhide TB W h) tF (Eq.trans htF (txt_int _).symm)
 have RFL:Hid (∀ W,SaysSt w W g9 g10 fs gs fx fy gx gy xb yb f g→Calls Tryz.prog 30 #[.pointer (some ⟨xb,0,none⟩)] W fun e w'=>∃ zb,e=.returned (.pointer (some ⟨zb,0,none⟩))∧But [] W w'∧IntAt w' zb 0 (fl f)):=fun W h=>(refFloor_any xb f W h.2.2.2.1 (Lf.mono (by omega))).mono (fun e w' k=>by
  obtain ⟨zb,k1,k2,k3,-⟩:=k
  exact ⟨zb,k1,k2,k3⟩)
 have STR:Hid (∀ W a,IntAt W a 0 (fl f)→Calls Tryz.prog 31 #[.pointer (some ⟨a,0,none⟩)] W fun e w'=>e=.returned (.string tF)∧But [] W w'):=fun W a k=>by
  have l1:(wd 4294967296 (fl f).natAbs).length≤2:=Nat.le_trans (lenU_mono (fl_le_abs f)) Lf.1
  have l2:=digU_len _ _ l1
  exact intString_any a 0 (fl f) W k (by omega) (by omega) tF htF
 obtain ⟨eR,heR⟩:∃ eR:Int,eR=if g.num≤0 then 1 else 0:=⟨_,rfl⟩
 obtain ⟨xR,hxR⟩:∃ xR:Rat,xR=nearR (f*g⁻¹)*g:=⟨_,rfl⟩
 obtain ⟨sh,hsh⟩:∃ sh,sh=g.num.sign:=⟨_,rfl⟩
 have RND:Hid (∀ W,Calls Tryz.prog 32 #[.agg #[.bool fs,.int .u64 fx,.int .u64 fy,.pointer none],.agg #[.bool gs,.int .u64 gx,.int .u64 gy,.pointer none]] W fun e w'=>∃ v ev,e=.returned (.tuple #[v,ev])∧OneOk w' v ev eR xR∧But [] W w'):=fun W=>by
  by_cases h0:g.num≤0
  ·rw [heR,if_pos h0]
   exact (round_err fs gs fx fy gx gy g GG h0 W).mono (fun e w' h=>⟨_,_,h.1,.inl ⟨by omega,by omega,rfl,rfl⟩,h.2⟩)
  ·rw [heR,if_neg h0,hxR]
   exact (round_any _ _ f g W (FF W) (GG W) lf lg (by omega)).mono (fun e w' h=>by
    obtain ⟨v,h1,h2,h3⟩:=h
    exact ⟨v,_,h1,.inr ⟨rfl,rfl,h2⟩,h3⟩)
 have HER:Hid (((g.num≤0∧eR=1)∨(0<g.num∧eR=0))∧xR=nearR (f*g⁻¹)*g):=by
  refine ⟨?_,hxR⟩
  by_cases h0:g.num≤0
  ·exact .inl ⟨h0,by rw [heR,if_pos h0]⟩
  ·exact .inr ⟨by omega,by rw [heR,if_neg h0]⟩
 have HSH:Hid ((sh≤0∧eR=1)∨(¬ sh≤0∧eR=0)):=by
  rcases sign_cases g.num with ⟨h1,h2⟩ | ⟨h1,h2⟩ | ⟨h1,h2⟩
  ·exact .inr ⟨by omega,by rw [heR,if_neg (by omega)]⟩
  ·exact .inl ⟨by omega,by rw [heR,if_pos (by omega)]⟩
  ·exact .inl ⟨by omega,by rw [heR,if_pos (by omega)]⟩
 have SGY:Hid (∀ W,SaysSt w W g9 g10 fs gs fx fy gx gy xb yb f g→Calls Tryz.prog 11 #[.pointer (some ⟨yb,0,none⟩)] W fun e w'=>e=.returned (.int .i64 sh)∧w'=W):=fun W h=>ratSign_any yb g.num (g.den:Int) W h.2.2.2.2 sh hsh (by have:=Lg.1;omega)
 clear ln hsf hr htN htF heR hxR hsh FF GG lf lg hpf hqf hpg hqg Lf Lg h63
 obtain ⟨c0,c1,c2,c3⟩:=(unhide K6).1
 go_wp2_with fail
 refine (unhide ONE).mono ?_
 rintro e wn ⟨rfl,hb⟩
 dsimp only
 replace ST:=hide ((unhide ST).step hb)
 clear hb c0 c1 c2 c3 ONE K6 HEP
 obtain ⟨c0,c1,c2,c3⟩:=(unhide ST).2.1
 go_wp2_with fail
 refine (unhide SGN _).mono ?_
 rintro e wn ⟨rfl,hb⟩
 dsimp only
 replace ST:=hide ((unhide ST).step hb)
 clear hb c0 c1 c2 c3 SGN
 go_wp2_with fail
 refine (unhide SGR _ (unhide ST)).mono ?_
 rintro e wn ⟨rfl,hb⟩
 dsimp only
 replace ST:=hide ((unhide ST).step hb)
 clear hb SGR
 obtain ⟨c0,c1,c2,c3⟩:=(unhide ST).2.1
 obtain ⟨d0,d1,d2,d3⟩:=(unhide ST).2.2.1
 go_wp2_with fail
 refine (unhide CMP _).mono ?_
 rintro e wn ⟨rfl,hb⟩
 dsimp only
 replace ST:=hide ((unhide ST).step hb)
 clear hb c0 c1 c2 c3 d0 d1 d2 d3 CMP
 go_wp2_with fail
 refine (unhide RCM _ (unhide ST)).mono ?_
 rintro e wn ⟨rfl,hb⟩
 dsimp only
 replace ST:=hide ((unhide ST).step hb)
 clear hb RCM
 obtain ⟨c0,c1,c2,c3⟩:=(unhide ST).2.1
 go_wp2_with fail
 refine (unhide NEG _).mono ?_
 rintro e wn ⟨v1,rfl,hv,hb⟩
 dsimp only
 replace ST:=hide ((unhide ST).step hb)
 have HV:=hide hv
 clear hb hv c0 c1 c2 c3 NEG
 go_wp2_with fail
 refine (unhide TXN _ v1 (unhide ST) (unhide HV)).mono ?_
 rintro e wn ⟨rfl,hb⟩
 dsimp only
 replace ST:=hide ((unhide ST).step hb)
 clear hb TXN HV
 go_wp2_with fail
 refine (unhide IN _).mono ?_
 rintro e wn ⟨z1,rfl,hb,hz⟩
 dsimp only
 replace ST:=hide ((unhide ST).step hb)
 have HZ:=hide hz
 clear hb hz IN
 go_wp2_with fail
 refine (unhide SUB _ z1 (unhide ST) (unhide HZ)).mono ?_
 rintro e wn ⟨z2,rfl,hb,hz⟩
 dsimp only
 replace ST:=hide ((unhide ST).step hb)
 have HZ2:=hide hz
 clear hb hz SUB HZ
 go_wp2_with fail
 refine (unhide RTN _ z2 (unhide HZ2)).mono ?_
 rintro e wn ⟨rfl,hb⟩
 dsimp only
 replace ST:=hide ((unhide ST).step hb)
 clear hb RTN HZ2
 obtain ⟨c0,c1,c2,c3⟩:=(unhide ST).2.1
 go_wp2_with fail
 refine (unhide FLO _).mono ?_
 rintro e wn ⟨v2,rfl,hv,hb⟩
 dsimp only
 replace ST:=hide ((unhide ST).step hb)
 have HV:=hide hv
 clear hb hv c0 c1 c2 c3 FLO
 go_wp2_with fail
 refine (unhide TXF _ v2 (unhide ST) (unhide HV)).mono ?_
 rintro e wn ⟨rfl,hb⟩
 dsimp only
 replace ST:=hide ((unhide ST).step hb)
 clear hb TXF HV
 go_wp2_with fail
 refine (unhide RFL _ (unhide ST)).mono ?_
 rintro e wn ⟨z3,rfl,hb,hz⟩
 dsimp only
 replace ST:=hide ((unhide ST).step hb)
 have HZ:=hide hz
 clear hb hz RFL
 go_wp2_with fail
 refine (unhide STR _ z3 (unhide HZ)).mono ?_
 rintro e wn ⟨rfl,hb⟩
 dsimp only
 replace ST:=hide ((unhide ST).step hb)
 clear hb STR HZ
 obtain ⟨c0,c1,c2,c3⟩:=(unhide ST).2.1
 obtain ⟨d0,d1,d2,d3⟩:=(unhide ST).2.2.1
 go_wp2_with fail
 refine (unhide RND _).mono ?_
 rintro e w6 ⟨pv,re,rfl,hok,hb6⟩
 dsimp only
 obtain ⟨rs,rx,ry,rp,rfl⟩:=hok.agg
 obtain ⟨V6,hV6⟩:∃ V6,V6=w6.alloc (.cells #[.bool rs,.int .u64 rx,.int .u64 ry,.pointer rp] 27):=⟨_,rfl⟩
 obtain ⟨g18,hg18⟩:∃ g18,g18=w6.heap.size:=⟨_,rfl⟩
 have c18:P4 V6 g18 rs rx ry rp:=by rw [hV6,hg18];exact ⟨by simp,by simp,by simp,by simp⟩
 have bV6:But [] w6 V6:=by rw [hV6];exact (But.refl _ _).alloc _
 replace ST:=hide ((unhide ST).step (hb6.trans' bV6))
 have KR:=hide (And.intro c18 (hok.but bV6))
 have HV6:=hide hV6
 clear c18 bV6 hok hb6 hV6 c0 c1 c2 c3 d0 d1 d2 d3 RND
 go_wp2_with fail
 rw [← unhide HV6]
 try rw [← hg18]
 clear hg18 HV6
 refine (unhide SGY _ (unhide ST)).mono ?_
 rintro e wn ⟨rfl,hw⟩
 obtain rfl:=hw.symm
 dsimp only
 clear hw SGY
 go_upto_if 170 with fail
 go_cut [15] (fun s15 wx=>s15=.int .i64 eR∧wx=V6)
 case first =>
  rcases unhide HSH with ⟨e1,e2⟩ | ⟨e1,e2⟩
  ·subst e2
   clear HSH HER KR
   go_wp2_with fail
   go_meet
   exact ⟨rfl,rfl⟩
  ·subst e2
   clear HSH HER KR
   go_wp2_with fail
   go_meet
   exact ⟨rfl,rfl⟩
 case rest =>
  obtain ⟨rfl,rfl⟩:=hcut
  rename ∀ a w,Code.wp _ _ _ a w→_=>hK
  refine hK _ _ ?_
  exact says_end w _ g9 g10 fs gs fx fy gx gy xb yb f g n p g18 rs rx ry rp re eR xR ST HF HGF HT HG hp KR HER _ _ _ _ _ _ _ _ _ _ _ _ _ _ _ _ _ _ _ _ _ _ _ _ _ _ _ _ _ _ _ _ _ _ _ _ _ _ _ _ _ _ _ _ _ _ _ _ _ _ _ _ _ _ _ _ _ _ _ _ _ _ _ _ _ _ _ _ _ _ _ _ _ _ _ _ _ _ _ _ _ _ _ _ _ _ _ _ _ _ _ _ _ _ _ _ _ _ _ _ _ _ _ _ _ _ _ _ _ _ _ _ _ _ _ _ _ _ _ _ _ _ _ _ _ _ _ _ _ _ _ _ _ _ _ _ _ _ _ _ _ _ _ _ _ _ _ _ _ _ _ _ _ _ _ _ _ _ _ _ _ _ _ _ _ _ _ _ _ _ _ _ _ _ _ _ _ _ _ _ _ _ _ _ _ _ _ _ _ _ _ _ _ _ _ _ _ _ _ _ _ _ _ _ _ _ _ _ _ _ _ _ _ _ _ _ _ _ _ _ _ _ _ _ _ _ _ _ _ _ _ _ _ _ _ _ _ _ _ _ _ _ _ _ _ _
end Go.Proofs.YteipfplbcbaheaaGreatDoor
