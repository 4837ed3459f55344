/- The law TriangleBest from where its function is made on: what is known stays. -/
import Derived.Deep.CutBlock
import Derived.Deep.DeepCutAuto
import Derived.Test.YtjbboicccddhbaaGreatDoorKBTW
import Derived.Test.YtjbboicccddhbaaGreatDoorKBTYc
namespace Go.Proofs.YtjbboicccddhbaaGreatDoor
open Go.RowKit
set_option linter.unusedVariables false

set_option maxHeartbeats 32000000 in
set_option maxRecDepth 100000 in
theorem best_known (w W : World) (B3 B4 tb tof n tcap gf m gq lo hi : Nat) (qa qb : Int) (hq : Fits (qa, qb)) (t : List (List Int)) (ko : Int) (hko : -9223372036854775808 ≤ ko ∧ ko < 9223372036854775808) (HS : Hid (BestSt W B3 B4 tb tof n tcap qa qb t)) (HB : Hid (But [] w W)) (HG : Hid (TriGood t)) (HN : Hid (n = t.length)) (HM : Hid (m = n - 1)) (hcap : tcap ≤ 9223372036854775807) (HR : Hid (Row4 W gf m m (fc t))) (hgf : gf < W.heap.size) (HL : Hid (∀ k, Len (fc t k) 1 ∨ m ≤ k)) (HQ : Hid (∀ j, j < n → SqRow W lo hi gq j n (sq t j))) (hhi : hi ≤ W.heap.size) (q0 q1 q5 q6 q7 q8 q11 q13 q14 q15 q16 q17 q18 q19 q20 q21 q22 q23 q24 q25 q26 q27 q28 q29 q30 q31 q32 q33 q34 q35 q36 q37 q38 q39 q40 q41 q42 q43 q44 q45 q46 q47 q48 q49 q50 q51 q52 q53 q54 q55 q56 q57 q58 q59 q60 q61 q62 q63 q64 q65 q66 q67 q68 q69 q70 q71 q72 q73 q74 q75 q76 q77 q78 q79 q80 q81 q82 q83 q84 q85 q86 q87 q88 q89 q90 q91 q92 q93 q94 q95 q96 q97 q98 q99 q100 q101 q102 q103 q104 q105 q106 q107 q108 q109 q110 q111 q112 q113 q114 q115 q116 q117 q118 q119 q120 q121 q122 q123 q124 q125 q126 q127 q128 q129 q130 q131 q132 q133 q134 q135 q136 q137 q138 q139 q140 q141 q142 q143 q144 q145 q146 q147 q148 q149 q150 q151 q152 q153 q154 q155 q156 q157 q158 q159 q160 q161 q162 q163 q164 q165 q166 q167 q168 q169 q170 q171 q172 q173 q174 q175 q176 q177 q178 q179 q180 q181 q182 q183 q184 q185 q186 q187 q188 q189 q190 q191 q192 q193 q194 q195 q196 q197 q198 q199 q200 q201 q202 q203 q204 q205 q206 q207 q208 q209 q210 q211 q212 q213 q214 q215 q216 q217 q218 q219 q220 q221 q222 q223 q224 q225 q226 q227 q228 q229 q230 q231 q232 q233 : Value) :
    Code.wp Tryz.prog (tailT 8 triBody) (bodyPost Tryz.prog Tryz.f7 fun e w' => e = .returned (.bool true) ∧ But [] w w') { tmps := (q0 :: q1 :: .int .i64 ko :: .pointer (some ⟨B3, 0, none⟩) :: .pointer (some ⟨B4, 0, none⟩) :: q5 :: q6 :: q7 :: q8 :: .slice (some ⟨tb, tof, none⟩) n tcap :: .slice (some ⟨gf, 0, none⟩) m m :: q11 :: .slice (some ⟨gq, 0, none⟩) n n :: q13 :: q14 :: q15 :: q16 :: q17 :: q18 :: q19 :: q20 :: q21 :: q22 :: q23 :: q24 :: q25 :: q26 :: q27 :: q28 :: q29 :: q30 :: q31 :: q32 :: q33 :: q34 :: q35 :: q36 :: q37 :: q38 :: q39 :: q40 :: q41 :: q42 :: q43 :: q44 :: q45 :: q46 :: q47 :: q48 :: q49 :: q50 :: q51 :: q52 :: q53 :: q54 :: q55 :: q56 :: q57 :: q58 :: q59 :: q60 :: q61 :: q62 :: q63 :: q64 :: q65 :: q66 :: q67 :: q68 :: q69 :: q70 :: q71 :: q72 :: q73 :: q74 :: q75 :: q76 :: q77 :: q78 :: q79 :: q80 :: q81 :: q82 :: q83 :: q84 :: q85 :: q86 :: q87 :: q88 :: q89 :: q90 :: q91 :: q92 :: q93 :: q94 :: q95 :: q96 :: q97 :: q98 :: q99 :: q100 :: q101 :: q102 :: q103 :: q104 :: q105 :: q106 :: q107 :: q108 :: q109 :: q110 :: q111 :: q112 :: q113 :: q114 :: q115 :: q116 :: q117 :: q118 :: q119 :: q120 :: q121 :: q122 :: q123 :: q124 :: q125 :: q126 :: q127 :: q128 :: q129 :: q130 :: q131 :: q132 :: q133 :: q134 :: q135 :: q136 :: q137 :: q138 :: q139 :: q140 :: q141 :: q142 :: q143 :: q144 :: q145 :: q146 :: q147 :: q148 :: q149 :: q150 :: q151 :: q152 :: q153 :: q154 :: q155 :: q156 :: q157 :: q158 :: q159 :: q160 :: q161 :: q162 :: q163 :: q164 :: q165 :: q166 :: q167 :: q168 :: q169 :: q170 :: q171 :: q172 :: q173 :: q174 :: q175 :: q176 :: q177 :: q178 :: q179 :: q180 :: q181 :: q182 :: q183 :: q184 :: q185 :: q186 :: q187 :: q188 :: q189 :: q190 :: q191 :: q192 :: q193 :: q194 :: q195 :: q196 :: q197 :: q198 :: q199 :: q200 :: q201 :: q202 :: q203 :: q204 :: q205 :: q206 :: q207 :: q208 :: q209 :: q210 :: q211 :: q212 :: q213 :: q214 :: q215 :: q216 :: q217 :: q218 :: q219 :: q220 :: q221 :: q222 :: q223 :: q224 :: q225 :: q226 :: q227 :: q228 :: q229 :: q230 :: q231 :: q232 :: q233 :: []).toArray, defers := [] } W := by
  conv => arg 2; whnf
  have n20 : n ≤ 20 := by rw [unhide HN]; exact (unhide HG).1.2.1
  have n2 : 2 ≤ n := by rw [unhide HN]; exact (unhide HG).1.1
  have hmf : ∀ (fn : Fn) (first cap : Array Value) (w : World), (Instr.makeFunc fn first cap).run Tryz.prog w = .ok (.func fn first cap) w := fun _ _ _ _ => rfl
  go_wp2
  rename ∀ a w, Code.wp _ _ _ a w → _ => hK
  have HK := hide hK
  clear hK hmf
  go_loopw [15, 16] (fun wv iv wr => ∃ i : Nat, i ≤ n ∧ iv = .int .i64 (i : Int) ∧ (∃ wh : Bool, wv = .bool wh ∧ Hid (wh = true → ∀ a k, k < n - a → a < i → 0 < tc t a k)) ∧ Hid (But [] W wr)) (fun _ iv _ => n - (intOf iv).toNat)
  case atStart => exact ⟨0, Nat.zero_le _, rfl, ⟨true, rfl, fun _ a k _ ha => by omega⟩, But.refl _ _⟩
  case round =>
    obtain ⟨i, hi', rfl, ⟨wh, rfl, HW⟩, HI⟩ := hrel
    rename World => wr
    obtain ⟨c3, -, -, hta, -⟩ := (unhide HS).step (unhide HI)
    by_cases hlt : i < n
    · have hil : i < t.length := by have := unhide HN; omega
      have hge : t[i]? = some t[i] := List.getElem?_eq_getElem hil
      obtain ⟨r, hr⟩ : ∃ r, r = t[i] := ⟨_, rfl⟩
      rw [← hr] at hge
      obtain ⟨a', cap', ea, -, hc⟩ := hta
      simp only [Value.slice.injEq] at ea
      obtain ⟨rfl, -, rfl⟩ := ea
      obtain ⟨b', off', rv', eb, c0, c1⟩ := hc i r hge
      obtain ⟨rfl, rfl⟩ : tb = b' ∧ tof = off' := by simpa using eb
      obtain ⟨ra, rcap, rfl, hrc, hri⟩ := c1
      have hrl : r.length = n - i := by rw [(unhide HG).1.len hge, unhide HN]
      obtain ⟨x0, hx0⟩ : ∃ x, r[0]? = some x := ⟨_, List.getElem?_eq_getElem (by omega)⟩
      obtain ⟨rb, ro, rfl, -⟩ := hri 0 x0 hx0
      obtain ⟨rn, hrn⟩ : ∃ rn, rn = r.length := ⟨_, rfl⟩
      rw [← hrn] at c0 hrl
      have hrn1 : rn ≤ n := by omega
      have HRN := hide hrl
      have HRI : Hid (∀ k, k < rn → wr.cell? ⟨rb, ro + k, none⟩ = some (.int .i64 (tc t i k))) := fun k hk => by
        obtain ⟨x, hx⟩ : ∃ x, r[k]? = some x := ⟨_, List.getElem?_eq_getElem (by omega)⟩
        obtain ⟨b2, o2, e2, c2⟩ := hri k x hx
        obtain ⟨rfl, rfl⟩ : rb = b2 ∧ ro = o2 := by simpa using e2
        rw [tc_of hge hx]
        exact c2
      have C0 := hide c0
      have C3 := hide c3
      clear hge hr hri hx0 hrn hc eb hrc hil hrl
      go_wp2
      go_loopw [15, 17] (fun wv jv wj => ∃ j : Nat, j ≤ rn ∧ jv = .int .i64 (j : Int) ∧ (∃ wh : Bool, wv = .bool wh ∧ Hid (wh = true → (∀ a k, k < n - a → a < i → 0 < tc t a k) ∧ ∀ k, k < j → 0 < tc t i k)) ∧ Hid (But [] wr wj)) (fun _ jv _ => rn - (intOf jv).toNat)
      case atStart => exact ⟨0, Nat.zero_le _, rfl, ⟨wh, rfl, fun h => ⟨unhide HW h, fun k hk => by omega⟩⟩, But.refl _ _⟩
      case round =>
        obtain ⟨j, hj, rfl, ⟨wh2, rfl, HW2⟩, HJ⟩ := hrel
        rename World => wj
        have d3 := (unhide HJ).cell_some (unhide C3) (by simp)
        have d0 := (unhide HJ).cell_some (unhide C0) (by simp)
        by_cases hjl : j < rn
        · obtain ⟨z, hz⟩ : ∃ z, z = tc t i j := ⟨_, rfl⟩
          have zb := (unhide HG).1.cell i j
          have cz := unhide HRI j hjl
          rw [← hz] at zb cz
          have dz := (unhide HJ).cell_some cz (by simp)
          obtain ⟨gr, g1, g2, g3, g4, g5⟩ := unhide HQ i hlt
          have BW : Hid (But [] W wj) := (unhide HI).trans' (unhide HJ)
          have cq := (unhide BW).cell_some g1 (by simp)
          obtain ⟨s1, x1, y1, p1, c1, f1⟩ := (g2.but (unhide BW) (by omega)).told j (by omega)
          have hsq : sq t i j = ((z : Int) : Rat) := by
            rw [hz]
            exact sq_known t i j (by have := unhide HN; omega) (by have := unhide HN; have := unhide HRN; omega)
          rw [hsq] at f1
          obtain ⟨ws, wx, FW, WH⟩ := whole_is z (by omega) (by omega)
          have lz := len_int z (by omega)
          have LI : Hid (∀ w', But [] wj w' → Calls Tryz.prog 13 #[.agg #[.bool s1, .int .u64 x1, .int .u64 y1, .pointer p1], .agg #[.bool ws, .int .u64 wx, .int .u64 0, .pointer none]] w' fun e w'' => e = .returned (.bool true) ∧ But [] w' w'') := fun w' hb => like_len _ _ _ w' (f1.but hb) (FW w') (lz.mono (by omega)) (TabIs.but (unhide HS).2.2.2.2 ((unhide BW).trans' hb))
          have HWH := hide WH
          have CQ := hide cq
          have C1 := hide c1
          have D3 := hide d3
          have D0 := hide d0
          have DZ := hide dz
          have HZ := hide hz
          clear cz g1 g2 g3 g4 g5 cq c1 f1 hsq FW WH lz hz
          cases wh2 with
          | false =>
            have NW : Hid (false = true → (∀ a k, k < n - a → a < i → 0 < tc t a k) ∧ ∀ k, k < j + 1 → 0 < tc t i k) := fun h => by simp at h
            clear zb
            go_wp2
            refine best_region22 22 _ _ wj tb tof n tcap i j rb ro rn rcap gq gr z ws wx s1 x1 y1 p1 (by simp) B3 (by simp [Act.eval]) (by simp [Act.eval]) (by simp [Act.eval]) (by simp [Act.eval]) hlt (by omega) (by omega) hjl (by omega) (unhide CQ) (unhide C1) (unhide D3) (unhide D0) (unhide DZ) (unhide HWH) (unhide LI) ?_
            intro w7 hb7
            simp only [putted, List.foldl_cons, List.foldl_nil, Act.put, List.setIfInBounds_toArray, List.set_cons_zero, List.set_cons_succ]
            have NX := hide ((unhide HJ).trans' hb7)
            clear hb7 LI
            go_wp2
            exact ⟨⟨j + 1, by omega, by go_num, ⟨false, rfl, unhide NW⟩, unhide NX⟩, by simp [intOf]; omega⟩
          | true =>
            by_cases hz0 : 0 < z
            · have NW : Hid (true = true → (∀ a k, k < n - a → a < i → 0 < tc t a k) ∧ ∀ k, k < j + 1 → 0 < tc t i k) := fun h => ⟨(unhide HW2 rfl).1, fun k hk => by
                rcases Nat.lt_or_ge k j with h' | h'
                · exact (unhide HW2 rfl).2 k h'
                · obtain rfl : k = j := by omega
                  rw [← unhide HZ]
                  exact hz0⟩
              clear zb
              go_wp2
              refine best_region22 22 _ _ wj tb tof n tcap i j rb ro rn rcap gq gr z ws wx s1 x1 y1 p1 (by simp) B3 (by simp [Act.eval]) (by simp [Act.eval]) (by simp [Act.eval]) (by simp [Act.eval]) hlt (by omega) (by omega) hjl (by omega) (unhide CQ) (unhide C1) (unhide D3) (unhide D0) (unhide DZ) (unhide HWH) (unhide LI) ?_
              intro w7 hb7
              simp only [putted, List.foldl_cons, List.foldl_nil, Act.put, List.setIfInBounds_toArray, List.set_cons_zero, List.set_cons_succ]
              have NX := hide ((unhide HJ).trans' hb7)
              clear hb7 LI
              go_wp2
              exact ⟨⟨j + 1, by omega, by go_num, ⟨true, rfl, fun _ => unhide NW trivial⟩, unhide NX⟩, by simp [intOf]; omega⟩
            · have NW : Hid (false = true → (∀ a k, k < n - a → a < i → 0 < tc t a k) ∧ ∀ k, k < j + 1 → 0 < tc t i k) := fun h => by simp at h
              clear zb
              go_wp2
              refine best_region22 22 _ _ wj tb tof n tcap i j rb ro rn rcap gq gr z ws wx s1 x1 y1 p1 (by simp) B3 (by simp [Act.eval]) (by simp [Act.eval]) (by simp [Act.eval]) (by simp [Act.eval]) hlt (by omega) (by omega) hjl (by omega) (unhide CQ) (unhide C1) (unhide D3) (unhide D0) (unhide DZ) (unhide HWH) (unhide LI) ?_
              intro w7 hb7
              simp only [putted, List.foldl_cons, List.foldl_nil, Act.put, List.setIfInBounds_toArray, List.set_cons_zero, List.set_cons_succ]
              have NX := hide ((unhide HJ).trans' hb7)
              clear hb7 LI
              go_wp2
              exact ⟨⟨j + 1, by omega, by go_num, ⟨false, rfl, unhide NW⟩, unhide NX⟩, by simp [intOf]; omega⟩
        · obtain rfl : j = rn := by omega
          have NW : Hid (wh2 = true → ∀ a k, k < n - a → a < i + 1 → 0 < tc t a k) := fun h a k hk ha => by
            rcases Nat.lt_or_ge a i with h' | h'
            · exact (unhide HW2 h).1 a k hk h'
            · obtain rfl : a = i := by omega
              exact (unhide HW2 h).2 k (by have := unhide HRN; omega)
          have NX := hide ((unhide HI).trans' (unhide HJ))
          go_wp2
          exact ⟨⟨i + 1, by omega, by go_num, ⟨wh2, rfl, unhide NW⟩, unhide NX⟩, by simp [intOf]; omega⟩
    · obtain rfl : i = n := by omega
      have HSr := hide ((unhide HS).step (unhide HI))
      have HBr := hide ((unhide HB).trans' (unhide HI))
      have HRr := hide ((unhide HR).but (unhide HI) hgf)
      have hgr : gf < wr.heap.size := Nat.lt_of_lt_of_le hgf (unhide HI).size
      clear hta
      go_wp2
      refine unhide HK _ _ ?_
      exact best_least w _ B3 B4 tb tof i tcap gf m qa qb hq t ko wh hko HSr HBr HG HN HM hcap HRr hgr HL HW _ _ _ _ _ _ _ _ _ _ _ _ _ _ _ _ _ _ _ _ _ _ _ _ _ _ _ _ _ _ _ _ _ _ _ _ _ _ _ _ _ _ _ _ _ _ _ _ _ _ _ _ _ _ _ _ _ _ _ _ _ _ _ _ _ _ _ _ _ _ _ _ _ _ _ _ _ _ _ _ _ _ _ _ _ _ _ _ _ _ _ _ _ _ _ _ _ _ _ _ _ _ _ _ _ _ _ _ _ _ _ _ _ _ _ _ _ _ _ _ _ _ _ _ _ _ _ _ _ _ _ _ _ _ _ _ _ _ _ _ _ _ _ _ _ _ _ _ _ _ _ _ _ _ _ _ _ _ _ _ _ _ _ _ _ _ _ _ _ _ _ _ _ _ _ _ _ _ _ _ _ _ _ _ _ _ _ _ _ _ _ _ _ _ _ _ _ _ _ _ _ _ _ _ _ _ _ _ _ _ _ _ _ _ _ _ _ _ _ _ _ _ _ _ _ _ _
end Go.Proofs.YtjbboicccddhbaaGreatDoor

namespace Go.Proofs.YtjbboicccddhbaaGreatDoor
open Go.RowKit
set_option linter.unusedVariables false

set_option maxHeartbeats 32000000 in
set_option maxRecDepth 100000 in
theorem triBest_any (v : Value) (t : List (List Int)) (qa qb ko mx : Int) (w : World) (hv : TriAt w v t) (hcc : ∀ a n c, v = .slice a n c → c ≤ 9223372036854775807) (hnb : t.length ≤ 9223372036854775807) (hq : Fits (qa, qb)) (hko : -9223372036854775808 ≤ ko ∧ ko < 9223372036854775808) (htab : Lib.TabIs Tryz.prog w "internal/strconv.uint64pow10" .u64 Lib.pow10Tab) (hm : w.cell? ⟨5, 0, none⟩ = some (.int .i64 mx)) :
    Calls Tryz.prog 7 #[v, .agg #[.int .i64 qa, .int .i64 qb], .int .i64 ko] w fun e w' => e = .returned (.bool true) ∧ But [] w w' := by
  obtain ⟨a, cap, rfl, hcap, hc⟩ := id hv
  have hcm := hcc _ _ _ rfl
  obtain ⟨n, hn⟩ : ∃ n, n = t.length := ⟨_, rfl⟩
  rw [← hn] at hnb hcap
  have HV : Hid (TriAt w (.slice a n cap) t) := by rw [hn]; exact hv
  rw [← hn]
  have HN := hide hn
  have HC := hide hc
  clear hv hc hn hcc
  obtain ⟨X1, hX1⟩ : ∃ X, X = w.alloc (.cells #[.slice a n cap] 73) := ⟨_, rfl⟩
  obtain ⟨W1, hW1⟩ : ∃ X, X = X1.alloc (.cells #[.int .i64 qa, .int .i64 qb] 23) := ⟨_, rfl⟩
  have s1 : X1.heap.size = w.heap.size + 1 := by rw [hX1]; simp
  have b1 : But [] w X1 := by rw [hX1]; exact (But.refl _ _).alloc _
  have b2 : But [] X1 W1 := by rw [hW1]; exact (But.refl _ _).alloc _
  have c3 : W1.cell? ⟨w.heap.size, 0, none⟩ = some (.slice a n cap) := b2.cell_some (by rw [hX1]; simp) (by simp)
  have c4 : W1.cell? ⟨X1.heap.size, 0, none⟩ = some (.int .i64 qa) := by rw [hW1]; simp
  have c5 : W1.cell? ⟨X1.heap.size, 1, none⟩ = some (.int .i64 qb) := by rw [hW1]; simp
  have bW := b1.trans' b2
  obtain ⟨B4, hB4⟩ : ∃ g, g = w.heap.size + 1 := ⟨_, rfl⟩
  obtain ⟨B3, hB3⟩ : ∃ g, g = w.heap.size := ⟨_, rfl⟩
  rw [s1, ← hB4] at c4 c5
  rw [← hB3] at c3
  have HBW := hide bW
  have C3 := hide c3
  have C4 := hide c4
  have C5 := hide c5
  have TW := hide ((unhide HV).but bW)
  have GW : Hid (∀ W, But [] W1 W → Calls Tryz.prog 34 #[] W fun e w' => e = .returned (.bool true) ∧ But [] W w') := fun W hW => grown_any mx W (TabIs.but htab (bW.trans' hW)) ((bW.trans' hW).cell_some hm (by simp))
  have HT := hide (TabIs.but htab bW)
  clear b1 b2 bW s1 c4 c5 htab hm
  go_enter Tryz.func7, Tryz.ntmps7
  go_wp2
  rw [← hX1, ← hW1, ← hB4, ← hB3]
  clear hX1 hW1 hB4 hB3
  go_loopw [7, 8] (fun s iv wr => ∃ i : Nat, i ≤ n ∧ iv = .int .i64 (i : Int) ∧ (∃ z : Int, s = .int .i64 z) ∧ wr = W1) (fun _ iv _ => n - (intOf iv).toNat)
  case atStart => exact ⟨0, Nat.zero_le _, rfl, ⟨_, rfl⟩, rfl⟩
  case round =>
    obtain ⟨i, hi, rfl, ⟨z, rfl⟩, hw⟩ := hrel
    rename World => wr
    subst hw
    by_cases hlt : i < n
    · obtain ⟨r, hr⟩ : ∃ r, t[i]? = some r := ⟨_, List.getElem?_eq_getElem (by have := unhide HN; omega)⟩
      obtain ⟨b, off, rv', rfl, c0, ra, rcap, rfl, -⟩ := unhide HC i r hr
      have d0 := (unhide HBW).cell_some c0 (by simp)
      obtain ⟨rl, hrl⟩ : ∃ rl, rl = r.length := ⟨_, rfl⟩
      rw [← hrl] at d0
      have c3' := unhide C3
      clear hr c0 hrl
      go_wp2
      exact ⟨⟨i + 1, by omega, by go_num, by first | exact ⟨_, rfl⟩ | trivial, by first | rfl | trivial⟩, by simp [intOf]; omega⟩
    · obtain rfl : i = n := by omega
      have c3' := unhide C3
      by_cases hz : 60 < z
      · go_wp2
        go_ret
        exact ⟨rfl, unhide HBW⟩
      · have FA := hide (factors_any (.slice a i cap) t wr (unhide TW) (fun a n c e => by simp only [Value.slice.injEq] at e; omega) i (unhide HN))
        have CO : Hid (∀ W, But [] wr W → Calls Tryz.prog 33 #[.slice a i cap] W fun e w' => ComPost t i W e w') := fun W hW => complete_any (.slice a i cap) t W ((unhide TW).but hW) (fun a n c e => by simp only [Value.slice.injEq] at e; omega) i (unhide HN)
        go_wp2_with fail
        refine (unhide FA).mono ?_
        rintro e w1 ⟨hb1, ⟨hgood, gf, rfl, hrow, hg1, hg2, hl⟩ | ⟨hno, cf, rfl⟩⟩
        · have HG := hide hgood
          have HR := hide hrow
          have HL := hide hl
          have HB1 := hide hb1
          clear hgood hrow hl hb1 FA
          obtain ⟨m, hm⟩ : ∃ m, m = i - 1 := ⟨_, rfl⟩
          rw [← hm] at HR HL ⊢
          have HM := hide hm
          clear hm
          dsimp only
          go_wp2_with fail
          refine (unhide CO _ (unhide HB1)).mono ?_
          rintro e w2 ⟨hb2, ⟨-, gq, rfl, hq1, hq2, hrows, hlq⟩ | ⟨hno, -⟩⟩
          · have HQ := hide hrows
            have HB2 := hide ((unhide HB1).trans' hb2)
            have HR2 := hide ((unhide HR).but hb2 hg2)
            have hg3 : gf < w2.heap.size := Nat.lt_of_lt_of_le hg2 hb2.size
            clear hrows hlq hb2 CO HR
            dsimp only
            go_wp2_with fail
            refine (unhide GW _ (unhide HB2)).mono ?_
            rintro e w3 ⟨rfl, hb3⟩
            have HB3 := hide ((unhide HB2).trans' hb3)
            have HR3 := hide ((unhide HR2).but hb3 hg3)
            have hg4 : gf < w3.heap.size := Nat.lt_of_lt_of_le hg3 hb3.size
            have HQ3 : Hid (∀ j, j < i → SqRow w3 w1.heap.size w2.heap.size gq j i (sq t j)) := fun j hj => (unhide HQ j hj).but hb3 (Nat.le_refl _)
            have hhi : w2.heap.size ≤ w3.heap.size := hb3.size
            clear hb3 GW HR2 HQ
            dsimp only
            go_upto_if 65 with fail
            go_cut [] (fun wx => wx = w3)
            case first =>
              go_wp2_with fail
              go_meet
              rfl
            case rest =>
              subst hcut
              rename World => wx
              obtain ⟨tb, tof, rfl⟩ := (unhide TW).some (by have := (unhide HG).1.1; omega)
              have HS : Hid (BestSt wx B3 B4 tb tof i cap qa qb t) := BestSt.step ⟨unhide C3, unhide C4, unhide C5, unhide TW, unhide HT⟩ (unhide HB3)
              have HBF := hide ((unhide HBW).trans' (unhide HB3))
              rename ∀ a w, Code.wp _ _ _ a w → _ => hK
              clear hK
              rename ∀ a w, Code.wp _ _ _ a w → _ => hK
              refine hK _ _ ?_
              exact best_known w _ B3 B4 tb tof i cap gf m gq _ _ qa qb hq t ko hko HS HBF HG HN HM hcm HR3 hg4 HL HQ3 hhi _ _ _ _ _ _ _ _ _ _ _ _ _ _ _ _ _ _ _ _ _ _ _ _ _ _ _ _ _ _ _ _ _ _ _ _ _ _ _ _ _ _ _ _ _ _ _ _ _ _ _ _ _ _ _ _ _ _ _ _ _ _ _ _ _ _ _ _ _ _ _ _ _ _ _ _ _ _ _ _ _ _ _ _ _ _ _ _ _ _ _ _ _ _ _ _ _ _ _ _ _ _ _ _ _ _ _ _ _ _ _ _ _ _ _ _ _ _ _ _ _ _ _ _ _ _ _ _ _ _ _ _ _ _ _ _ _ _ _ _ _ _ _ _ _ _ _ _ _ _ _ _ _ _ _ _ _ _ _ _ _ _ _ _ _ _ _ _ _ _ _ _ _ _ _ _ _ _ _ _ _ _ _ _ _ _ _ _ _ _ _ _ _ _ _ _ _ _ _ _ _ _ _ _ _ _ _ _ _ _ _ _ _ _ _ _ _ _ _ _ _ _ _ _ _ _ _ _
          · exact absurd (unhide HG) hno
        · have HNO := hide hno
          have HB1 := hide hb1
          clear hno hb1 FA
          dsimp only
          go_wp2_with fail
          refine (unhide CO _ (unhide HB1)).mono ?_
          rintro e w2 ⟨hb2, ⟨hgood, -⟩ | ⟨-, cc, rfl⟩⟩
          · exact absurd hgood (unhide HNO)
          · have HB2 := hide ((unhide HB1).trans' hb2)
            clear hb2 CO
            dsimp only
            go_wp2_with fail
            refine (unhide GW _ (unhide HB2)).mono ?_
            rintro e w3 ⟨rfl, hb3⟩
            have HB3 := hide ((unhide HB2).trans' hb3)
            clear hb3
            dsimp only
            go_wp2_with fail
            refine (unhide GW _ (unhide HB3)).mono ?_
            rintro e w4 ⟨rfl, hb4⟩
            have HB4 := hide (((unhide HBW).trans' (unhide HB3)).trans' hb4)
            clear hb4
            dsimp only
            go_wp2
            go_ret
            exact ⟨rfl, unhide HB4⟩
end Go.Proofs.YtjbboicccddhbaaGreatDoor
