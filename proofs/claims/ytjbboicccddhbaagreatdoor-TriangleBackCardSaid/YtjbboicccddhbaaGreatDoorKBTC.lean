/- How much all years together grew in each year of growing, as the Go text of package triangle finds it. -/
import Derived.Test.YtjbboicccddhbaaGreatDoorKBL2
import Derived.Test.YtjbboicccddhbaaGreatDoorKBTD
namespace Go.Proofs.YtjbboicccddhbaaGreatDoor
open Go.RowKit
set_option linter.unusedVariables false

theorem of_cross {f : Rat} {x y : Int} (hy : y ≠ 0) (h : f.num * y = x * f.den) : f = ((x : Int) : Rat) / ((y : Int) : Rat) := by
  have := qf_of f (x, y) (by simp only [if_neg hy]; exact h)
  rw [this]
  unfold qf
  simp only [if_neg hy]
/-- a factor -/
def fc (t : List (List Int)) (k : Nat) : Rat := ((cs t (k + 1) (t.length - 1 - k) : Int) : Rat) / ((cs t k (t.length - 1 - k) : Int) : Rat)
/-- a triangle that may be, with all its factors -/
def TriGood (t : List (List Int)) : Prop := TriOk t ∧ ∀ k, k + 1 < t.length → cs t k (t.length - 1 - k) ≠ 0
def FacPost (t : List (List Int)) (n : Nat) (w : World) (e : Ending) (w' : World) : Prop := But [] w w' ∧
  ((TriGood t ∧ ∃ g, e = .returned (.tuple #[.slice (some ⟨g, 0, none⟩) (n - 1) (n - 1), .nilIface]) ∧ Row4 w' g (n - 1) (n - 1) (fc t) ∧ w.heap.size ≤ g ∧ g < w'.heap.size ∧ ∀ k, Len (fc t k) 1 ∨ n - 1 ≤ k) ∨
   (¬ TriGood t ∧ ∃ c, e = .returned (.tuple #[.slice none 0 0, .iface 92 (.int .i64 c)])))
set_option maxHeartbeats 8000000 in
set_option maxRecDepth 100000 in
theorem factors_any (v : Value) (t : List (List Int)) (w : World) (hv : TriAt w v t) (hcc : ∀ a n c, v = .slice a n c → c ≤ 9223372036854775807) (n : Nat) (hn : n = t.length) :
    Calls Tryz.prog 32 #[v] w fun e w' => FacPost t n w e w' := by
  have CH := hide (triCheck_any v t w hv)
  obtain ⟨a, cap, rfl, hcap, hc⟩ := id hv
  have hc2 := hcc _ _ _ rfl
  clear hcc
  have HV := hide hv
  rw [← hn] at hcap CH HV ⊢
  have HN := hide hn
  clear hv hc hn
  go_enter Tryz.func32, Tryz.ntmps32
  go_wp2_with fail
  refine (unhide CH).mono ?_
  rintro e w1 ⟨r, rfl, hb1, ⟨hok, rfl⟩ | ⟨hno, c, rfl⟩⟩
  · have n2 : 2 ≤ n := by rw [unhide HN]; exact hok.1
    have n20 : n ≤ 20 := by rw [unhide HN]; exact hok.2.1
    have HOK := hide hok
    obtain ⟨b, off, rfl⟩ : ∃ b off, a = some ⟨b, off, none⟩ := by
      obtain ⟨a', c', e, -, h⟩ := unhide HV
      have h0 : 0 < t.length := by have := unhide HN; omega
      obtain ⟨b, off, rv, ea, -⟩ := h 0 t[0] (List.getElem?_eq_getElem h0)
      simp only [Value.slice.injEq] at e
      exact ⟨b, off, e.1.trans ea⟩
    have HB1 := hide hb1
    clear hok hb1 CH
    have hmk := fun wx => run_makeF wx (n - 1) (by omega)
    have en : ((n - 1 : Nat) : Int) = (n : Int) - 1 := by omega
    simp only [en] at hmk
    obtain ⟨N, hNN⟩ : ∃ N, N = n - 1 := ⟨_, rfl⟩
    obtain ⟨U, hU⟩ : ∃ U, U = w1.alloc (.cells (madeCells #[.bool false, .int .u64 0, .int .u64 0, .pointer none] (N * 4)) 27) := ⟨_, rfl⟩
    have rU : Row4 U w1.heap.size N 0 (fc t) := by rw [hU]; exact Row4.made w1 N _
    have bU : But [] w1 U := by rw [hU]; exact (But.refl _ _).alloc _
    have lU : w1.heap.size < U.heap.size := by rw [hU]; simp
    obtain ⟨G, hG⟩ : ∃ G, G = w1.heap.size := ⟨_, rfl⟩
    have I0 : Hid (Row4 U G N 0 (fc t) ∧ G < U.heap.size ∧ But [] w U) := ⟨by rw [hG]; exact rU, by rw [hG]; exact lU, (unhide HB1).trans' bU⟩
    have HG : Hid (w.heap.size ≤ G) := by rw [hG]; exact (unhide HB1).size
    rw [← hNN] at hmk
    have HNN := hide (show n = N + 1 by omega)
    clear rU bU lU HB1 hNN en
    go_wp2
    rw [← hU, ← hG]
    clear hU hG hmk
    have hnN := unhide HNN
    have hnN1 : n ≤ N + 1 := by omega
    have hnN2 : N + 1 ≤ n := by omega
    clear hnN
    go_loopw [21] (fun i wr => ∃ k : Nat, k ≤ N ∧ i = .int .i64 (k : Int) ∧ Hid ((Row4 wr G N k (fc t) ∧ G < wr.heap.size ∧ But [] w wr) ∧ ∀ j, j < k → cs t j (n - 1 - j) ≠ 0 ∧ Len (fc t j) 1)) (fun i _ => N - (intOf i).toNat)
    case atStart => exact ⟨0, Nat.zero_le _, rfl, unhide I0, fun j hj => by omega⟩
    case round =>
      obtain ⟨k, hk, rfl, HI⟩ := hrel
      rename World => wr
      clear I0
      by_cases hlt : k < N
      · obtain ⟨m, hm⟩ : ∃ m, m = n - 1 - k := ⟨_, rfl⟩
        have hmk : m + k + 1 = n := by omega
        have hml : m ≤ t.length := by have := unhide HN; omega
        have TM := ((unhide HV).but (unhide HI).1.2.2).take m hml
        have TM' := hide TM
        have hkr : ∀ (i : Nat) (r : List Int), (t.take m)[i]? = some r → k + 1 < r.length := fun i r hr => by
          have hi : i < m := by
            have := (List.getElem?_eq_some_iff.1 hr).1
            rw [List.length_take] at this
            omega
          rw [List.getElem?_take_of_lt hi] at hr
          have := (unhide HOK).len hr
          have := unhide HN
          omega
        have hxr : ∀ j i, 0 ≤ tc (t.take m) i j ∧ tc (t.take m) i j ≤ 1000000000000000 := fun j i => by
          by_cases hi : i < m
          · have h := (unhide HOK).cell i j
            have e : tc (t.take m) i j = tc t i j := by unfold tc; rw [List.getElem?_take_of_lt hi]
            rw [e]
            exact h
          · have e : (t.take m)[i]? = none := List.getElem?_eq_none (by rw [List.length_take]; omega)
            unfold tc
            rw [e]
            simp
        obtain ⟨S1, hS1⟩ : ∃ S1, S1 = cs t (k + 1) m := ⟨_, rfl⟩
        obtain ⟨S0, hS0⟩ : ∃ S0, S0 = cs t k m := ⟨_, rfl⟩
        have b1 := cs_bound t (k + 1) (fun i => (unhide HOK).cell i _) m
        have b0 := cs_bound t k (fun i => (unhide HOK).cell i _) m
        rw [← hS1] at b1
        rw [← hS0] at b0
        have SU1 := triSum_any b off m cap (t.take m) (k + 1) wr TM (by omega) hkr (hxr _) (by omega) S1 (by rw [cs_take t _ m hml m (Nat.le_refl _)]; exact hS1)
        rw [show (((k + 1 : Nat)) : Int) = (k : Int) + 1 from by omega] at SU1
        have SU0 := triSum_any b off m cap (t.take m) k wr TM (by omega) (fun i r hr => by have := hkr i r hr; omega) (hxr _) (by omega) S0 (by rw [cs_take t _ m hml m (Nat.le_refl _)]; exact hS0)
        have HS1 := hide SU1
        have HS0 := hide SU0
        have GR := hide (triGrown_any b off n cap k m wr (by omega) (by omega) hc2 hmk)
        have H1 := hide hS1
        have H0 := hide hS0
        have HM := hide hm
        clear TM hkr hxr SU1 SU0 hS1 hS0 hm
        by_cases hz : S0 = 0
        · have OF := hide (fun W => fracOf_zero S1 W)
          have NG : Hid (¬ TriGood t) := fun h => h.2 k (by have := unhide HN; omega) (by
            have e1 := unhide H0
            rw [unhide HM, hz] at e1
            rw [← unhide HN]
            exact e1.symm)
          subst hz
          have HB := hide (unhide HI).1.2.2
          go_wp2_with fail
          refine (unhide GR).mono ?_
          rintro e w2 ⟨rfl, rfl⟩
          go_wp2_with fail
          refine (unhide HS1).mono ?_
          rintro e w2 ⟨rfl, rfl⟩
          go_wp2_with fail
          refine (unhide HS0).mono ?_
          rintro e w2 ⟨rfl, rfl⟩
          go_wp2_with fail
          refine (unhide OF _).mono ?_
          rintro e w3 ⟨rfl, hb3⟩
          have HB3 := hide hb3
          clear hb3
          go_wp2
          exact bodyPost_ret (v := .tuple #[.slice none 0 0, .iface 92 (.int .i64 11)]) (by simp [results, Tryz.results32, go_sem]) rfl ⟨((unhide HB).trans' (unhide HB3)).alloc _, .inr ⟨unhide NG, _, rfl⟩⟩
        · obtain ⟨f, s3, x3, y3, l3, e3, F3, OF⟩ := fracOf_at S1 S0 (by omega) (by omega) (by omega) (by omega) hz
          have ef : fc t k = f := by
            rw [of_cross hz e3]
            unfold fc
            rw [unhide H1, unhide H0, unhide HM, ← unhide HN]
          have HOF := hide OF
          have HF := hide F3
          have HE := hide ef
          have HL := hide l3
          clear OF F3 ef l3 e3
          go_wp2_with fail
          refine (unhide GR).mono ?_
          rintro e w2 ⟨rfl, rfl⟩
          go_wp2_with fail
          refine (unhide HS1).mono ?_
          rintro e w2 ⟨rfl, rfl⟩
          go_wp2_with fail
          refine (unhide HS0).mono ?_
          rintro e w2 ⟨rfl, rfl⟩
          go_wp2_with fail
          refine (unhide HOF _).mono ?_
          rintro e w3 ⟨rfl, hb3⟩
          have hrow3 := (unhide HI).1.1.but hb3 (unhide HI).1.2.1
          have R3 := hide hrow3
          have pf := hrow3.loose
          obtain ⟨k0, k1, k2, k3⟩ := hrow3.blank k (Nat.le_refl _) hlt
          have HB3 := hide hb3
          have hgl : G < w3.heap.size := Nat.lt_of_lt_of_le (unhide HI).1.2.1 hb3.size
          clear hrow3 hb3
          go_wp2
          have hS := but_setCells w3 G [.bool s3, .int .u64 x3, .int .u64 y3, .pointer none] (k * 4)
          have bA := (But.refl [] (w3.setCells G (k * 4) [.bool s3, .int .u64 x3, .int .u64 y3, .pointer none])).alloc (.cells #[.bool s3, .int .u64 x3, .int .u64 y3, .pointer none] 27)
          have hgs := Nat.lt_of_lt_of_le hgl hS.size
          refine ⟨⟨k + 1, by omega, by go_num, ⟨((unhide R3).next hlt s3 x3 y3 none (by rw [unhide HE]; exact unhide HF _)).but bA hgs, Nat.lt_of_lt_of_le hgs bA.size, (((unhide HI).1.2.2.trans' (unhide HB3)).trans hS (fun x hx => by simp at hx; subst hx; exact .inr (unhide HG))).trans' bA⟩, fun j hj => ?_⟩, by simp [intOf]; omega⟩
          rcases Nat.lt_or_ge j k with h | h
          · exact (unhide HI).2 j h
          · obtain rfl : j = k := by omega
            exact ⟨by rw [← unhide HM, ← unhide H0]; exact hz, by rw [unhide HE]; exact unhide HL⟩
      · obtain rfl : k = N := by omega
        go_wp2
        refine bodyPost_ret (v := .tuple #[.slice (some ⟨G, 0, none⟩) k k, .nilIface]) (by simp [results, Tryz.results32, go_sem]) rfl ?_
        have hnN := unhide HNN
        refine ⟨(unhide HI).1.2.2, .inl ⟨⟨unhide HOK, fun j hj => ?_⟩, G, ?_, ?_, unhide HG, (unhide HI).1.2.1, fun j => ?_⟩⟩
        · rw [← unhide HN] at hj ⊢
          exact ((unhide HI).2 j (by omega)).1
        · rw [hnN]; rfl
        · rw [hnN]; exact (unhide HI).1.1
        · by_cases hj : j < k
          · exact .inl ((unhide HI).2 j hj).2
          · exact .inr (by omega)
  · have HB1 := hide hb1
    have HNO := hide hno
    clear hno hb1 CH
    go_wp2
    exact bodyPost_ret (v := .tuple #[.slice none 0 0, .iface 92 (.int .i64 c)]) (by simp [results, Tryz.results32, go_sem]) rfl ⟨unhide HB1, .inr ⟨fun h => unhide HNO h.1, _, rfl⟩⟩
end Go.Proofs.YtjbboicccddhbaaGreatDoor

namespace Go.Proofs.YtjbboicccddhbaaGreatDoor
open Go.RowKit
set_option linter.unusedVariables false

theorem info_row : ∃ i, Tryz.prog.info? 75 = some i ∧ i.zero = some (.slice none 0 0) ∧ i.size = 1 ∧ i.bytes = 24 := by
  have h : (Tryz.prog.info? 75).map (fun i => (i.zero, i.size, i.bytes)) = some (some (.slice none 0 0), 1, 24) := by kernel_rfl
  cases e : Tryz.prog.info? 75 with
  | none => rw [e] at h; simp at h
  | some i =>
    rw [e] at h
    simp only [Option.map_some, Option.some.injEq, Prod.mk.injEq] at h
    exact ⟨i, rfl, h.1, h.2.1, h.2.2⟩
theorem run_makeR (wx : World) (n : Nat) (h : n < 1000000) : (Instr.makeSlice 78 (.int .i64 (n : Int)) (.int .i64 (n : Int))).run Tryz.prog wx = .ok (.slice (some ⟨wx.heap.size, 0, none⟩) n n) (wx.alloc (.cells (madeCells #[.slice none 0 0] n) 75)) := by
  obtain ⟨ti, hi, hz, hs, hbt⟩ := info_row
  have hmk := run_make (P := Tryz.prog) wx 78 75 ti _ Tryz.underlying78 hi hz .i64 .i64 (n : Int) (n : Int) (by omega) (by omega) (by rw [hbt]; omega) (by omega)
  rw [hs, Int.toNat_natCast, Nat.mul_one] at hmk
  exact hmk
theorem made_one (n o : Nat) (h : o < n) : (madeCells #[Value.slice none 0 0] n)[o]? = some (Value.slice none 0 0) := by
  unfold madeCells
  rw [Array.getElem?_map, Array.getElem?_eq_getElem (by simpa using h), Array.getElem_range, Option.map_some]
  simp [Nat.mod_one]
/-- a fraction stays where a block of rows of fractions turns -/
theorem FracAt.overM {w W : World} {v : Value} {f : Rat} (h : FracAt w v f) {g g0 o n c i : Nat} {s : Bool} (c0 : w.cell? ⟨g, 0, none⟩ = some (.slice (some ⟨g0, o, none⟩) n c)) (hn : 0 < n) (cb : w.cell? ⟨g0, i, none⟩ = some (.bool s)) (hb : But [g] w W) : FracAt W v f := by
  rcases h with h1 | ⟨h1, b, v1, v2, h2, h3, h4, h5, h6⟩
  · exact .inl h1
  · have hbg : b ≠ g := by
      rintro rfl
      rw [c0] at h3
      obtain rfl := Option.some.inj h3
      exact (h5.ints hn).ne cb (by simp) rfl
    exact .inr ⟨h1, b, v1, v2, h2, hb.cell_some h3 (by simpa using hbg), hb.cell_some h4 (by simpa using hbg), h5.over hb c0 (by simp), h6.over hb c0 (by simp)⟩
theorem Row4.stay {w w' : World} {g n i : Nat} {F : Nat → Rat} {l : List Nat} (h : Row4 w g n i F) (hb : But l w w') (hg : g < w.heap.size) (hn : g ∉ l) (hf : ∀ v f, FracAt w v f → FracAt w' v f) : Row4 w' g n i F :=
  ⟨fun j h1 h2 => (h.blank j h1 h2).but hb hn, fun j hj => by
    obtain ⟨s, x, y, p, h1, h2⟩ := h.told j hj
    exact ⟨s, x, y, p, h1.but hb hn, hf _ _ h2⟩, fun o => (hb.frozen (p := ⟨g, o, none⟩) hg hn).trans (h.loose o)⟩
/-- a row of a square, told -/
def SqRow (w : World) (lo hi go j n : Nat) (F : Nat → Rat) : Prop := ∃ g, w.cell? ⟨go, j, none⟩ = some (.slice (some ⟨g, 0, none⟩) n n) ∧ Row4 w g n n F ∧ lo ≤ g ∧ g < hi ∧ g ≠ go
theorem SqRow.but {w w' : World} {lo hi go j n : Nat} {F : Nat → Rat} (h : SqRow w lo hi go j n F) (hb : But [] w w') (hh : hi ≤ w.heap.size) : SqRow w' lo hi go j n F := by
  obtain ⟨g, h1, h2, h3, h4, h5⟩ := h
  exact ⟨g, hb.cell_some h1 (by simp), h2.but hb (by omega), h3, h4, h5⟩
theorem SqRow.mono {w : World} {lo hi hi' go j n : Nat} {F : Nat → Rat} (h : SqRow w lo hi go j n F) (hh : hi ≤ hi') : SqRow w lo hi' go j n F := by
  obtain ⟨g, h1, h2, h3, h4, h5⟩ := h
  exact ⟨g, h1, h2, h3, by omega, h5⟩
theorem SqRow.beside {w w' : World} {lo hi go j n gi : Nat} {F : Nat → Rat} {s : Bool} (h : SqRow w lo hi go j n F) (hb : But [gi] w w') (hh : hi ≤ w.heap.size) (hgi : hi ≤ gi) (hgo : go ≠ gi) (hc : w.cell? ⟨gi, 0, none⟩ = some (.bool s)) : SqRow w' lo hi go j n F := by
  obtain ⟨g, h1, h2, h3, h4, h5⟩ := h
  exact ⟨g, hb.cell_some h1 (by simpa using hgo), h2.beside hb (by omega) (by simp; omega) (fun g hg => by simp at hg; subst hg; exact ⟨_, hc⟩), h3, h4, h5⟩
theorem SqRow.store {w V : World} {lo hi go i n : Nat} {F : Nat → Nat → Rat} (h : ∀ j, j < i → SqRow w lo hi go j n (F j)) (hn : 0 < n) (hh : hi ≤ w.heap.size) (hb : But [go] w V) (hc : ∀ j, j < i → V.cell? ⟨go, j, none⟩ = w.cell? ⟨go, j, none⟩) (j : Nat) (hj : j < i) : SqRow V lo hi go j n (F j) := by
  obtain ⟨g0, z1, z2, -, -, z5⟩ := h 0 (by omega)
  obtain ⟨s0, zb⟩ := z2.bool hn
  obtain ⟨g, h1, h2, h3, h4, h5⟩ := h j hj
  exact ⟨g, (hc j hj).trans h1, h2.stay hb (by omega) (by simpa using h5) (fun v f hf => hf.overM z1 hn zb hb), h3, h4, h5⟩
/-- the numbers of the square -/
def sq (t : List (List Int)) (i : Nat) : Nat → Rat
  | 0 => ((tc t i 0 : Int) : Rat)
  | k + 1 => if k + 1 < t.length - i then ((tc t i (k + 1) : Int) : Rat) else sq t i k * fc t k
theorem sq_known (t : List (List Int)) (i k : Nat) (hi : i < t.length) (hk : k < t.length - i) : sq t i k = ((tc t i k : Int) : Rat) := by
  cases k with
  | zero => rfl
  | succ k => show (if k + 1 < t.length - i then _ else _) = _; rw [if_pos hk]
theorem len_tc {t : List (List Int)} (h : TriOk t) (i k : Nat) : Len ((tc t i k : Int) : Rat) 1 := by
  have := h.cell i k
  exact len_int _ (by omega)
theorem len_sq {t : List (List Int)} (h : TriOk t) (hf : ∀ k, Len (fc t k) 1 ∨ t.length - 1 ≤ k) (i : Nat) : ∀ k, k < t.length → Len (sq t i k) (k + 1)
  | 0, _ => len_tc h i 0
  | k + 1, hk => by
    show Len (if k + 1 < t.length - i then _ else _) _
    split
    · exact (len_tc h i _).mono (by omega)
    · rcases hf k with l | l
      · exact len_mul (len_sq h hf i k (by omega)) l _ (by omega)
      · omega
def SqPost (t : List (List Int)) (n : Nat) (w : World) (e : Ending) (w' : World) : Prop := But [] w w' ∧ ∃ go, e = .returned (.slice (some ⟨go, 0, none⟩) n n) ∧ w.heap.size ≤ go ∧ go < w'.heap.size ∧ ∀ j, j < n → SqRow w' w.heap.size w'.heap.size go j n (sq t j)
set_option maxHeartbeats 16000000 in
set_option maxRecDepth 100000 in
theorem square_any (b off cap gf n : Nat) (t : List (List Int)) (w : World) (hv : TriAt w (.slice (some ⟨b, off, none⟩) n cap) t) (hok : TriOk t) (hn : n = t.length) (hfr : Row4 w gf (n - 1) (n - 1) (fc t)) (hgf : gf < w.heap.size) (hl : ∀ k, Len (fc t k) 1 ∨ n - 1 ≤ k) :
    Calls Tryz.prog 84 #[.slice (some ⟨b, off, none⟩) n cap, .slice (some ⟨gf, 0, none⟩) (n - 1) (n - 1)] w fun e w' => SqPost t n w e w' := by
  have n2 : 2 ≤ n := by rw [hn]; exact hok.1
  have n20 : n ≤ 20 := by rw [hn]; exact hok.2.1
  have HV := hide hv
  have HOK := hide hok
  have HN := hide hn
  have HFR := hide hfr
  have HL : Hid (∀ i k, k < n → Len (sq t i k) 20) := fun i k hk => (len_sq hok (by rw [← hn]; exact hl) i k (by rw [← hn]; exact hk)).mono (by omega)
  have HLF := hide hl
  obtain ⟨m, hm⟩ : ∃ m, m = n - 1 := ⟨_, rfl⟩
  rw [← hm] at HFR HLF ⊢
  have HM := hide hm
  have hm20 : m < 20 := by omega
  have hmk := fun wx => run_makeR wx n (by omega)
  have hmkF := fun wx => run_makeF wx n (by omega)
  clear hv hok hn hfr hl hm
  obtain ⟨U, hU⟩ : ∃ U, U = w.alloc (.cells (madeCells #[.slice none 0 0] n) 75) := ⟨_, rfl⟩
  have bU : But [] w U := by rw [hU]; exact (But.refl _ _).alloc _
  have lU : w.heap.size < U.heap.size := by rw [hU]; simp
  have cU : ∀ j, j < n → U.cell? ⟨w.heap.size, j, none⟩ = some (.slice none 0 0) := fun j hj => by rw [hU, World.cell?_alloc_new]; exact made_one n j hj
  have fU : ∀ o, U.frozen? ⟨w.heap.size, o, none⟩ = false := fun o => by rw [hU]; simp
  obtain ⟨go, hgo⟩ : ∃ go, go = w.heap.size := ⟨_, rfl⟩
  have hgw : w.heap.size ≤ go := by omega
  rw [← hgo] at cU fU
  have I0 : Hid (But [] w U ∧ go < U.heap.size ∧ (∀ o, U.frozen? ⟨go, o, none⟩ = false) ∧ (∀ j, j < 0 → SqRow U w.heap.size U.heap.size go j n (sq t j)) ∧ ∀ j, 0 ≤ j → j < n → U.cell? ⟨go, j, none⟩ = some (.slice none 0 0)) :=
    ⟨bU, by rw [hgo]; exact lU, fU, fun j hj => by omega, fun j _ hj => cU j hj⟩
  clear bU lU cU fU
  go_enter Tryz.func84, Tryz.ntmps84
  go_wp2
  rw [← hU, ← hgo]
  have HGW := hide hgw
  clear hU hgo hmk hgw
  go_loopw [14] (fun i wr => ∃ k : Nat, k ≤ n ∧ i = .int .i64 (k : Int) ∧ Hid (But [] w wr ∧ go < wr.heap.size ∧ (∀ o, wr.frozen? ⟨go, o, none⟩ = false) ∧ (∀ j, j < k → SqRow wr w.heap.size wr.heap.size go j n (sq t j)) ∧ ∀ j, k ≤ j → j < n → wr.cell? ⟨go, j, none⟩ = some (.slice none 0 0))) (fun i _ => n - (intOf i).toNat)
  case atStart => exact ⟨0, Nat.zero_le _, rfl, unhide I0⟩
  case round =>
    obtain ⟨i, hi, rfl, HI⟩ := hrel
    rename World => wr
    clear I0
    by_cases hlt : i < n
    · obtain ⟨bw, hgl, hfz, hrows, hblank⟩ := unhide HI
      have hil : i < t.length := by have := unhide HN; omega
      have hge : t[i]? = some t[i] := List.getElem?_eq_getElem hil
      obtain ⟨r, hr⟩ : ∃ r, r = t[i] := ⟨_, rfl⟩
      rw [← hr] at hge
      obtain ⟨a', cap', ea, -, hc⟩ := unhide HV
      simp only [Value.slice.injEq] at ea
      obtain ⟨rfl, -, rfl⟩ := ea
      obtain ⟨b', off', rv, eb, c0, c1⟩ := hc i r hge
      obtain ⟨rfl, rfl⟩ : b = b' ∧ off = off' := by simpa using eb
      obtain ⟨ra, rcap, rfl, hrc, hri⟩ := c1
      have hrl : r.length = n - i := by rw [(unhide HOK).len hge, unhide HN]
      obtain ⟨x0, hx0⟩ : ∃ x, r[0]? = some x := ⟨_, List.getElem?_eq_getElem (by omega)⟩
      obtain ⟨rb, ro, rfl, -⟩ := hri 0 x0 hx0
      obtain ⟨rn, hrn⟩ : ∃ rn, rn = r.length := ⟨_, rfl⟩
      rw [← hrn] at c0 hrl
      have HRL := hide hrl
      have hrn1 : rn ≤ 20 := by omega
      have hrn0 : 0 < rn := by omega
      have d0 := bw.cell_some c0 (by simp)
      have HRI : Hid (∀ k x, tc t i k = x → k < rn → w.cell? ⟨rb, ro + k, none⟩ = some (.int .i64 x)) := fun k x hx hk => by
        obtain ⟨y, hy⟩ : ∃ y, r[k]? = some y := ⟨_, List.getElem?_eq_getElem (by omega)⟩
        obtain ⟨b2, o2, e2, c2⟩ := hri k y hy
        obtain ⟨rfl, rfl⟩ : rb = b2 ∧ ro = o2 := by simpa using e2
        rw [tc_of hge hy] at hx
        rw [← hx]
        exact c2
      have hbi := hblank i (Nat.le_refl _) hlt
      clear c0 hge hr hri hx0 hrn hc eb hrc hil hrl
      obtain ⟨gi, hgi⟩ : ∃ gi, gi = wr.heap.size := ⟨_, rfl⟩
      -- the world with the new row
      obtain ⟨W2, hW2⟩ : ∃ W2, W2 = (wr.setCell ⟨go, i, none⟩ (.slice (some ⟨wr.heap.size, 0, none⟩) n n)).alloc (.cells (madeCells #[.bool false, .int .u64 0, .int .u64 0, .pointer none] (n * 4)) 27) := ⟨_, rfl⟩
      obtain ⟨V, hV⟩ : ∃ V, V = wr.setCell ⟨go, i, none⟩ (.slice (some ⟨wr.heap.size, 0, none⟩) n n) := ⟨_, rfl⟩
      have bV : But [go] wr V := by rw [hV]; exact but_setCells wr go [.slice (some ⟨wr.heap.size, 0, none⟩) n n] i
      have sV : V.heap.size = wr.heap.size := by rw [hV]; simp
      have cVi : V.cell? ⟨go, i, none⟩ = some (.slice (some ⟨gi, 0, none⟩) n n) := by
        rw [hV, hgi]
        exact World.cell?_setCells_in go [.slice (some ⟨wr.heap.size, 0, none⟩) n n] i wr (fun j hj => by simp at hj; subst hj; rw [Nat.add_zero, hbi]; rfl) 0 (by simp)
      have cVo : ∀ j, j ≠ i → V.cell? ⟨go, j, none⟩ = wr.cell? ⟨go, j, none⟩ := fun j hj => by
        rw [hV]
        exact World.cell?_setCells_out go [.slice (some ⟨wr.heap.size, 0, none⟩) n n] i wr _ (fun _ _ => by simp; omega)
      have fV : ∀ o, V.frozen? ⟨go, o, none⟩ = false := fun o => by
        rw [hV]
        show (wr.setCells go i [.slice (some ⟨wr.heap.size, 0, none⟩) n n]).frozen? _ = false
        rw [World.frozen?_setCells]
        exact hfz o
      have b2 : But [] V W2 := by rw [hW2, ← hV]; exact (But.refl _ _).alloc _
      have r2 : Row4 W2 gi n 0 (sq t i) := by
        have h := Row4.made V n (sq t i)
        rw [sV, hV, ← hW2, ← hgi] at h
        exact h
      have s2 : gi < W2.heap.size := by rw [hW2, ← hV, World.size_alloc, sV, hgi]; omega
      have HROWS : Hid (∀ j, j < i → SqRow W2 w.heap.size gi go j n (sq t j)) := fun j hj =>
        (SqRow.store (fun j hj => by rw [hgi]; exact hrows j hj) (by omega) (by omega) bV (fun j hj => cVo j (by omega)) j hj).but b2 (by omega)
      have HBLK : Hid (∀ j, i + 1 ≤ j → j < n → W2.cell? ⟨go, j, none⟩ = some (.slice none 0 0)) := fun j h1 h2 => b2.cell_some ((cVo j (by omega)).trans (hblank j (by omega) h2)) (by simp)
      have HCI : Hid (W2.cell? ⟨go, i, none⟩ = some (.slice (some ⟨gi, 0, none⟩) n n)) := b2.cell_some cVi (by simp)
      have HFZ : Hid (∀ o, W2.frozen? ⟨go, o, none⟩ = false) := fun o => (b2.frozen (p := ⟨go, o, none⟩) (by show go < _; omega) (by simp)).trans (fV o)
      have HBW2 : Hid (But [] w W2) := (bw.trans bV (fun x hx => by simp at hx; subst hx; exact .inr (unhide HGW))).trans' b2
      have hgo2 : go < gi := by omega
      have HWG : Hid (w.heap.size ≤ gi) := by have := unhide HGW; show w.heap.size ≤ gi; omega
      have J0 : Hid (Row4 W2 gi n 0 (sq t i) ∧ But [gi] W2 W2) := ⟨r2, But.refl _ _⟩
      have HS2 := hide s2
      clear hrows hblank bV sV cVi cVo b2 r2 s2 bw fV
      have hbi' := hbi
      go_wp2
      rw [← hW2]
      try rw [← hgi]
      clear hW2 hV hbi' hbi hfz hgl d0 hgi hmkF HI
      go_loopw [27] (fun iv wj => ∃ k : Nat, k ≤ n ∧ iv = .int .i64 (k : Int) ∧ Hid (Row4 wj gi n k (sq t i) ∧ But [gi] W2 wj)) (fun iv _ => n - (intOf iv).toNat)
      case atStart => exact ⟨0, Nat.zero_le _, rfl, unhide J0⟩
      case round =>
        obtain ⟨k, hk, rfl, HJ⟩ := hrel
        rename World => wj
        by_cases hkn : k < n
        · have ⟨hrow, hbj⟩ := unhide HJ
          have BWJ : Hid (But [] w wj) := (unhide HBW2).trans hbj (fun x hx => by simp at hx; subst hx; exact .inr (unhide HWG))
          have gil : gi < wj.heap.size := Nat.lt_of_lt_of_le (unhide HS2) hbj.size
          have cq : wj.cell? ⟨go, i, none⟩ = some (.slice (some ⟨gi, 0, none⟩) n n) := hbj.cell_some (unhide HCI) (by simp; omega)
          have cbk := hrow.blank k (Nat.le_refl _) hkn
          by_cases hkr : k < rn
          · obtain ⟨z, hz⟩ : ∃ z, z = tc t i k := ⟨_, rfl⟩
            have zb := (unhide HOK).cell i k
            rw [← hz] at zb
            obtain ⟨sw, pw, FW, WH⟩ := whole_is z (by omega) (by omega)
            have cz := (unhide BWJ).cell_some (unhide HRI k z hz.symm hkr) (by simp)
            have hsq : Hid (sq t i k = ((z : Int) : Rat)) := by
              rw [hz]
              exact sq_known t i k (by have := unhide HN; omega) (by have := unhide HN; have := unhide HRL; omega)
            have WH' : Hid (∀ w, Calls Tryz.prog 16 #[.int .i64 z] w fun e w' => ∃ v, e = .returned v ∧ FracAt w' v ((z : Int) : Rat) ∧ But [] w w') := fun w => (WH w).mono (by rintro e w' ⟨rfl, hb⟩; exact ⟨_, rfl, FW _, hb⟩)
            have CQ := hide cq
            have CZ := hide cz
            have CB := hide cbk
            clear cq cz cbk hrow hbj WH FW hz zb
            go_wp2
            refine square_region10 10 _ _ wj gi (k * 4) go n i k rb ro rn rcap z (by simp) (unhide CB) (unhide HJ).1.loose (by simp [Act.eval]) (by simp [Act.eval]) (by simp [Act.eval]) (by simp [Act.eval]) rfl hlt (by omega) hkr (by omega) hkn (unhide CQ) (unhide CZ) (unhide WH') ?_
            intro w7 s7 x7 y7 p7 hb7 hf7
            simp only [putted, List.foldl_cons, List.foldl_nil, Act.put, List.setIfInBounds_toArray, List.set_cons_zero, List.set_cons_succ]
            have hrow7 := (unhide HJ).1.but hb7 gil
            have hS := but_setCells w7 gi [.bool s7, .int .u64 x7, .int .u64 y7, .pointer p7] (k * 4)
            have NX : Hid (Row4 (w7.setCells gi (k * 4) [.bool s7, .int .u64 x7, .int .u64 y7, .pointer p7]) gi n (k + 1) (sq t i) ∧ But [gi] W2 (w7.setCells gi (k * 4) [.bool s7, .int .u64 x7, .int .u64 y7, .pointer p7])) :=
              ⟨hrow7.next hkn s7 x7 y7 p7 (by rw [unhide hsq]; exact hf7), ((unhide HJ).2.trans hb7 (by simp)).trans hS (fun x hx => .inl hx)⟩
            clear hf7 hb7 hrow7 hS
            generalize w7.setCells gi (k * 4) [.bool s7, .int .u64 x7, .int .u64 y7, .pointer p7] = V7 at *
            go_wp2
            exact ⟨⟨k + 1, by omega, by go_num, unhide NX⟩, by simp [intOf]; omega⟩
          · obtain ⟨kb, rfl⟩ : ∃ kb, k = kb + 1 := ⟨k - 1, by omega⟩
            have hkm : kb < m := by have := unhide HM; omega
            obtain ⟨s1, x1, y1, p1, c1, f1⟩ := hrow.told kb (by omega)
            obtain ⟨s2, x2, y2, p2, c2, f2⟩ := ((unhide HFR).but (unhide BWJ) hgf).told kb hkm
            have l2 : Len (fc t kb) 1 := by
              rcases unhide HLF kb with l | l
              · exact l
              · omega
            have l1 := unhide HL i kb (by omega)
            have hsq : Hid (sq t i (kb + 1) = sq t i kb * fc t kb) := by
              show (if kb + 1 < t.length - i then _ else _) = _
              rw [if_neg (by have := unhide HN; have := unhide HRL; omega)]
            have MU : Hid (∀ w', But [] wj w' → Calls Tryz.prog 37 #[.agg #[.bool s1, .int .u64 x1, .int .u64 y1, .pointer p1], .agg #[.bool s2, .int .u64 x2, .int .u64 y2, .pointer p2]] w' fun e w'' => ∃ v, e = .returned v ∧ FracAt w'' v (sq t i kb * fc t kb) ∧ But [] w' w'') := fun w' hb => fracMul_any _ _ _ _ w' (f1.but hb) (f2.but hb) (l1.mono (by omega)) (l2.mono (by omega))
            have CQ := hide cq
            have CB := hide cbk
            have C1 := hide c1
            have C2 := hide c2
            clear cq cbk hrow hbj c1 c2 f1 f2 l1 l2
            have hneg : ¬ ((kb : Int) + 1 < (rn : Int)) := by omega
            have hcast : (((kb + 1 : Nat)) : Int) = (kb : Int) + 1 := by omega
            go_wp2
            refine square_region11 11 _ _ wj gi ((kb + 1) * 4) go n i kb gf m s1 x1 y1 p1 s2 x2 y2 p2 _ _ (by simp) (unhide CB) (unhide HJ).1.loose (by simp [Act.eval]) (by simp [Act.eval]) (by simp [Act.eval]) (by simp [Act.eval]) rfl hlt (by omega) hkn hkm (by omega) (unhide CQ) (unhide C1) (unhide C2) (unhide MU) ?_
            intro w7 s7 x7 y7 p7 hb7 hf7
            simp only [putted, List.foldl_cons, List.foldl_nil, Act.put, List.setIfInBounds_toArray, List.set_cons_zero, List.set_cons_succ]
            have hrow7 := (unhide HJ).1.but hb7 gil
            have hS := but_setCells w7 gi [.bool s7, .int .u64 x7, .int .u64 y7, .pointer p7] ((kb + 1) * 4)
            have NX : Hid (Row4 (w7.setCells gi ((kb + 1) * 4) [.bool s7, .int .u64 x7, .int .u64 y7, .pointer p7]) gi n (kb + 1 + 1) (sq t i) ∧ But [gi] W2 (w7.setCells gi ((kb + 1) * 4) [.bool s7, .int .u64 x7, .int .u64 y7, .pointer p7])) :=
              ⟨hrow7.next hkn s7 x7 y7 p7 (by rw [unhide hsq]; exact hf7), ((unhide HJ).2.trans hb7 (by simp)).trans hS (fun x hx => .inl hx)⟩
            clear hf7 hb7 hrow7 hS
            generalize w7.setCells gi ((kb + 1) * 4) [.bool s7, .int .u64 x7, .int .u64 y7, .pointer p7] = V7 at *
            go_wp2
            exact ⟨⟨kb + 1 + 1, by omega, by go_num, unhide NX⟩, by simp [intOf]; omega⟩
        · obtain rfl : k = n := by omega
          obtain ⟨sb, hsb⟩ := (unhide J0).1.bool (by omega)
          have HNX : Hid (But [] w wj ∧ go < wj.heap.size ∧ (∀ o, wj.frozen? ⟨go, o, none⟩ = false) ∧ (∀ j, j < i + 1 → SqRow wj w.heap.size wj.heap.size go j k (sq t j)) ∧ ∀ j, i + 1 ≤ j → j < k → wj.cell? ⟨go, j, none⟩ = some (.slice none 0 0)) := by
            have ⟨hrow, hbj⟩ := unhide HJ
            have gil : gi < wj.heap.size := Nat.lt_of_lt_of_le (unhide HS2) hbj.size
            refine ⟨(unhide HBW2).trans hbj (fun x hx => by simp at hx; subst hx; exact .inr (unhide HWG)), by omega, fun o => (hbj.frozen (p := ⟨go, o, none⟩) (by show go < _; have := unhide HS2; omega) (by simp; omega)).trans (unhide HFZ o), fun j hj => ?_, fun j h1 h2 => hbj.cell_some (unhide HBLK j h1 h2) (by simp; omega)⟩
            rcases Nat.lt_or_ge j i with h | h
            · exact ((unhide HROWS j h).beside hbj (by have := unhide HS2; omega) (Nat.le_refl _) (by omega) hsb).mono (by omega)
            · obtain rfl : j = i := by omega
              exact ⟨gi, hbj.cell_some (unhide HCI) (by simp; omega), hrow, unhide HWG, gil, by omega⟩
          clear hsb
          go_wp2
          exact ⟨⟨i + 1, by omega, by go_num, unhide HNX⟩, by simp [intOf]; omega⟩
    · obtain rfl : i = n := by omega
      go_wp2
      go_ret
      exact ⟨(unhide HI).1, go, rfl, unhide HGW, (unhide HI).2.1, (unhide HI).2.2.2.1⟩
end Go.Proofs.YtjbboicccddhbaaGreatDoor

namespace Go.Proofs.YtjbboicccddhbaaGreatDoor
open Go.RowKit
set_option linter.unusedVariables false

/-- what is not to be said: an error -/
def ErrT (e : Ending) : Prop := ∃ c, e = .returned (.tuple #[.slice none 0 0, .iface 92 (.int .i64 c)])
def ComPost (t : List (List Int)) (n : Nat) (w : World) (e : Ending) (w' : World) : Prop := But [] w w' ∧
  ((TriGood t ∧ ∃ go, e = .returned (.tuple #[.slice (some ⟨go, 0, none⟩) n n, .nilIface]) ∧ w.heap.size ≤ go ∧ go < w'.heap.size ∧ (∀ j, j < n → SqRow w' w.heap.size w'.heap.size go j n (sq t j)) ∧ ∀ i k, k < n → Len (sq t i k) 20) ∨ (¬ TriGood t ∧ ErrT e))
theorem TriAt.some {w : World} {a : Option Addr} {n cap : Nat} {t : List (List Int)} (h : TriAt w (.slice a n cap) t) (h0 : 0 < t.length) : ∃ b off, a = some ⟨b, off, none⟩ := by
  obtain ⟨a', c', e, -, h⟩ := h
  obtain ⟨b, off, rv, ea, -⟩ := h 0 t[0] (List.getElem?_eq_getElem h0)
  simp only [Value.slice.injEq] at e
  exact ⟨b, off, e.1.trans ea⟩
set_option maxHeartbeats 8000000 in
set_option maxRecDepth 100000 in
theorem complete_any (v : Value) (t : List (List Int)) (w : World) (hv : TriAt w v t) (hcc : ∀ a n c, v = .slice a n c → c ≤ 9223372036854775807) (n : Nat) (hn : n = t.length) :
    Calls Tryz.prog 33 #[v] w fun e w' => ComPost t n w e w' := by
  have FA := hide (factors_any v t w hv hcc n hn)
  obtain ⟨a, cap, rfl, hcap, hc⟩ := id hv
  have HV := hide hv
  rw [← hn] at HV FA ⊢
  have HN := hide hn
  clear hv hc hcap hcc hn
  go_enter Tryz.func33, Tryz.ntmps33
  go_wp2_with fail
  refine (unhide FA).mono ?_
  rintro e w1 ⟨hb1, ⟨hgood, g, rfl, hrow, hg1, hg2, hl⟩ | ⟨hno, c, rfl⟩⟩
  · obtain ⟨b, off, rfl⟩ := (unhide HV).some (by have := hgood.1.1; omega)
    have SQ := hide (square_any b off cap g n t w1 ((unhide HV).but hb1) hgood.1 (unhide HN) hrow hg2 hl)
    have HL : Hid (∀ i k, k < n → Len (sq t i k) 20) := fun i k hk => (len_sq hgood.1 (by rw [← unhide HN]; exact hl) i k (by rw [← unhide HN]; exact hk)).mono (by have := hgood.1.2.1; have := unhide HN; omega)
    have HG := hide hgood
    have HB1 := hide hb1
    clear hgood hrow hl hb1 hg1 hg2 FA
    obtain ⟨m, hm⟩ : ∃ m, m = n - 1 := ⟨_, rfl⟩
    rw [← hm] at SQ ⊢
    clear hm
    go_wp2_with fail
    refine (unhide SQ).mono ?_
    rintro e w2 ⟨hb2, go, rfl, h1, h2, h3⟩
    have HB2 := hide hb2
    have H3 := hide h3
    have H1 := hide h1
    have H2 := hide h2
    clear hb2 h3 h1 h2 SQ
    go_wp2
    refine bodyPost_ret (v := .tuple #[.slice (some ⟨go, 0, none⟩) n n, .nilIface]) (by simp [results, Tryz.results33, go_sem]) rfl ?_
    have h1 := unhide H1
    have s1 := (unhide HB1).size
    refine ⟨(unhide HB1).trans' (unhide HB2), .inl ⟨unhide HG, go, rfl, by omega, unhide H2, fun j hj => ?_, unhide HL⟩⟩
    obtain ⟨g, r1, r2, r3, r4, r5⟩ := unhide H3 j hj
    exact ⟨g, r1, r2, by omega, r4, r5⟩
  · have HB1 := hide hb1
    have HNO := hide hno
    clear hno hb1 FA
    go_wp2
    exact bodyPost_ret (v := .tuple #[.slice none 0 0, .iface 92 (.int .i64 c)]) (by simp [results, Tryz.results33, go_sem]) rfl ⟨unhide HB1, .inr ⟨unhide HNO, _, rfl⟩⟩

set_option maxHeartbeats 4000000 in
set_option maxRecDepth 100000 in
theorem last_any (g m : Nat) (F : Nat → Rat) (w : World) (hr : Row4 w g (m + 1) (m + 1) F) (hm : m < 1000) (hg : g < w.heap.size) :
    Calls Tryz.prog 86 #[.slice (some ⟨g, 0, none⟩) (m + 1) (m + 1)] w fun e w' => ∃ v, e = .returned v ∧ FracAt w' v (F m) ∧ But [] w w' := by
  obtain ⟨s, x, y, p, ⟨c0, c1, c2, c3⟩, hf⟩ := hr.told m (by omega)
  have HF := hide hf
  clear hf hr
  go_enter Tryz.func86, Tryz.ntmps86
  go_wp2
  have hb := (But.refl [] w).alloc (.cells #[.bool s, .int .u64 x, .int .u64 y, .pointer p] 27)
  exact bodyPost_ret (v := .agg #[.bool s, .int .u64 x, .int .u64 y, .pointer p]) (by simp [results, Tryz.results86, go_sem]) rfl ⟨_, rfl, (unhide HF).but hb, hb⟩

/-- what is still to come of a year -/
def rv (t : List (List Int)) (i : Nat) : Rat := sq t i (t.length - 1) - ((tc t i (t.length - 1 - i) : Int) : Rat)
def ResPost (t : List (List Int)) (n : Nat) (w : World) (e : Ending) (w' : World) : Prop := But [] w w' ∧
  ((TriGood t ∧ ∃ g, e = .returned (.tuple #[.slice (some ⟨g, 0, none⟩) n n, .nilIface]) ∧ Row4 w' g n n (rv t) ∧ w.heap.size ≤ g ∧ g < w'.heap.size ∧ ∀ i, Len (rv t i) 22) ∨ (¬ TriGood t ∧ ErrT e))
set_option maxHeartbeats 8000000 in
set_option maxRecDepth 100000 in
theorem reserves_any (v : Value) (t : List (List Int)) (w : World) (hv : TriAt w v t) (hcc : ∀ a n c, v = .slice a n c → c ≤ 9223372036854775807) (n : Nat) (hn : n = t.length) :
    Calls Tryz.prog 38 #[v] w fun e w' => ResPost t n w e w' := by
  have FA := hide (complete_any v t w hv hcc n hn)
  obtain ⟨a, cap, rfl, hcap, hc⟩ := id hv
  have HV := hide hv
  rw [← hn] at HV FA ⊢
  have HN := hide hn
  clear hv hc hcap hcc hn
  go_enter Tryz.func38, Tryz.ntmps38
  go_wp2_with fail
  refine (unhide FA).mono ?_
  rintro e w1 ⟨hb1, ⟨hgood, go, rfl, hg1, hg2, hrows, hl⟩ | ⟨hno, c, rfl⟩⟩
  · have n2 : 2 ≤ n := by rw [unhide HN]; exact hgood.1.1
    have n20 : n ≤ 20 := by rw [unhide HN]; exact hgood.1.2.1
    obtain ⟨b, off, rfl⟩ := (unhide HV).some (by have := unhide HN; omega)
    have HL := hide hl
    have HG := hide hgood
    have HB1 := hide hb1
    have HROWS := hide hrows
    have hmk := fun wx => run_makeF wx n (by omega)
    obtain ⟨U, hU⟩ : ∃ U, U = w1.alloc (.cells (madeCells #[.bool false, .int .u64 0, .int .u64 0, .pointer none] (n * 4)) 27) := ⟨_, rfl⟩
    have rU : Row4 U w1.heap.size n 0 (rv t) := by rw [hU]; exact Row4.made w1 n _
    have bU : But [] w1 U := by rw [hU]; exact (But.refl _ _).alloc _
    have lU : w1.heap.size < U.heap.size := by rw [hU]; simp
    obtain ⟨G, hG⟩ : ∃ G, G = w1.heap.size := ⟨_, rfl⟩
    have I0 : Hid (Row4 U G n 0 (rv t) ∧ G < U.heap.size ∧ But [] w1 U) := ⟨by rw [hG]; exact rU, by rw [hG]; exact lU, bU⟩
    have HGW : Hid (w1.heap.size ≤ G) := by rw [hG]; exact Nat.le_refl _
    have hgoG : go < G := by omega
    have hGG := hide (show w1.heap.size = G from hG.symm)
    clear hgood hrows hl hb1 rU bU lU hg1 hg2
    go_wp2
    rw [← hU]
    try rw [← hG]
    clear hU hG hmk
    go_loopw [23] (fun i wr => ∃ k : Nat, k ≤ n ∧ i = .int .i64 (k : Int) ∧ Hid (Row4 wr G n k (rv t) ∧ G < wr.heap.size ∧ But [] w1 wr)) (fun i _ => n - (intOf i).toNat)
    case atStart => exact ⟨0, Nat.zero_le _, rfl, unhide I0⟩
    case round =>
      obtain ⟨k, hk, rfl, HI⟩ := hrel
      rename World => wr
      clear I0
      by_cases hlt : k < n
      · have ⟨hrow, hgl, hbw⟩ := unhide HI
        have hkl : k < t.length := by have := unhide HN; omega
        have hge : t[k]? = some t[k] := List.getElem?_eq_getElem hkl
        obtain ⟨r, hr⟩ : ∃ r, r = t[k] := ⟨_, rfl⟩
        rw [← hr] at hge
        have TW := ((unhide HV).but (unhide HB1)).but hbw
        obtain ⟨a', cap', ea, -, hc⟩ := TW
        simp only [Value.slice.injEq] at ea
        obtain ⟨rfl, -, rfl⟩ := ea
        obtain ⟨b', off', rv', eb, c0, c1⟩ := hc k r hge
        obtain ⟨rfl, rfl⟩ : b = b' ∧ off = off' := by simpa using eb
        obtain ⟨ra, rcap, rfl, hrc, hri⟩ := c1
        have hrl : r.length = n - k := by rw [(unhide HG).1.len hge, unhide HN]
        obtain ⟨rm, hrm⟩ : ∃ rm, r.length = rm + 1 := ⟨n - k - 1, by omega⟩
        obtain ⟨z, hz⟩ : ∃ x, r[rm]? = some x := ⟨_, List.getElem?_eq_getElem (by omega)⟩
        obtain ⟨rb, ro, rfl, cz⟩ := hri rm z hz
        have htc : tc t k (t.length - 1 - k) = z := by
          rw [show t.length - 1 - k = rm from by have := unhide HN; omega]
          exact tc_of hge hz
        have zb := (unhide HG).1.cell k (t.length - 1 - k)
        rw [htc] at zb
        rw [hrm] at c0
        obtain ⟨gr, g1, g2, g3, g4, g5⟩ := unhide HROWS k hlt
        have g1' := hbw.cell_some g1 (by simp)
        obtain ⟨mm, hmm⟩ : ∃ mm, n = mm + 1 := ⟨n - 1, by omega⟩
        have LA : Hid (∀ W, But [] wr W → Calls Tryz.prog 86 #[.slice (some ⟨gr, 0, none⟩) n n] W fun e w' => ∃ v, e = .returned v ∧ FracAt w' v (sq t k (t.length - 1)) ∧ But [] W w') := fun W hW => by
          have h := last_any gr mm (sq t k) W (by rw [← hmm]; exact (g2.but hbw g4).but hW (Nat.lt_of_lt_of_le g4 hbw.size)) (by omega) (Nat.lt_of_lt_of_le (Nat.lt_of_lt_of_le g4 hbw.size) hW.size)
          rw [← hmm, show mm = t.length - 1 from by have := unhide HN; omega] at h
          exact h
        obtain ⟨sw, pw, FW, WH⟩ := whole_is z (by omega) (by omega)
        have hrv : Hid (rv t k = sq t k (t.length - 1) - ((z : Int) : Rat)) := by
          show rv t k = _
          unfold rv
          rw [htc]
        have SU : Hid (∀ W vl, FracAt W vl (sq t k (t.length - 1)) → Calls Tryz.prog 18 #[vl, .agg #[.bool sw, .int .u64 pw, .int .u64 0, .pointer none]] W fun e w' => ∃ s x y p, e = .returned (.agg #[.bool s, .int .u64 x, .int .u64 y, .pointer p]) ∧ FracAt w' (.agg #[.bool s, .int .u64 x, .int .u64 y, .pointer p]) (rv t k) ∧ But [] W w') := fun W vl h => by
          rw [unhide hrv]
          exact in_parts (fracSub_any vl _ _ _ W h (FW W) ((unhide HL k _ (by have := unhide HN; omega)).mono (by omega)) ((len_int z (by omega)).mono (by omega)))
        have HWH := hide WH
        have CT := hide c0
        have CZ := hide cz
        have hrm1 : rm < 20 := by omega
        clear hge hr hc eb hrc hri hz cz c0 htc hrl hrm g1 g2 g3 g4 g5 hmm WH FW hrow hkl
        go_wp2
        refine reserves_region8 8 _ _ wr b off n cap k rb ro rm rcap z (by simp) (by simp [Act.eval]) (by simp [Act.eval]) hlt (by omega) (by omega) (unhide CT) (unhide CZ) ?_
        intro w4 hb4
        simp only [putted, List.foldl_cons, List.foldl_nil, Act.put, List.setIfInBounds_toArray, List.set_cons_zero, List.set_cons_succ]
        have HB4 := hide hb4
        clear hb4 g1'
        go_wp2_with fail
        refine (unhide LA _ (unhide HB4)).mono ?_
        rintro e w5 ⟨vl, rfl, hfl, hb5⟩
        have HFL := hide hfl
        have HB5 := hide hb5
        clear hfl hb5
        go_wp2_with fail
        refine (unhide HWH _).mono ?_
        rintro e w6 ⟨rfl, hb6⟩
        have HFL6 := hide ((unhide HFL).but hb6)
        have HB6 := hide hb6
        clear hb6
        go_wp2_with fail
        refine (unhide SU _ _ (unhide HFL6)).mono ?_
        rintro e w7 ⟨s7, x7, y7, p7, rfl, hf7, hb7⟩
        have B7 : Hid (But [] wr w7) := (((unhide HB4).trans' (unhide HB5)).trans' (unhide HB6)).trans' hb7
        have HF7 := hide hf7
        have hrow7 := (unhide HI).1.but (unhide B7) hgl
        have R7 := hide hrow7
        have pf := hrow7.loose
        obtain ⟨k0, k1, k2, k3⟩ := hrow7.blank k (Nat.le_refl _) hlt
        clear hf7 hb7 hrow7
        go_wp2
        have hS := but_setCells w7 G [.bool s7, .int .u64 x7, .int .u64 y7, .pointer p7] (k * 4)
        refine ⟨⟨k + 1, by omega, by go_num, (unhide R7).next hlt s7 x7 y7 p7 (unhide HF7), Nat.lt_of_lt_of_le hgl (Nat.le_trans (unhide B7).size hS.size), ((unhide HI).2.2.trans' (unhide B7)).trans hS (fun x hx => by simp at hx; subst hx; exact .inr (unhide HGW))⟩, by simp [intOf]; omega⟩
      · obtain rfl : k = n := by omega
        go_wp2
        refine bodyPost_ret (v := .tuple #[.slice (some ⟨G, 0, none⟩) k k, .nilIface]) (by simp [results, Tryz.results38, go_sem]) rfl ?_
        have h1 := unhide HGW
        have h2 := (unhide HB1).size
        refine ⟨(unhide HB1).trans' (unhide HI).2.2, .inl ⟨unhide HG, G, rfl, (unhide HI).1, by omega, (unhide HI).2.1, fun i => ?_⟩⟩
        exact len_sub (unhide HL i _ (by have := unhide HN; omega)) (len_tc (unhide HG).1 i _) 22 (by omega)
  · have HB1 := hide hb1
    have HNO := hide hno
    clear hno hb1 FA
    go_wp2
    exact bodyPost_ret (v := .tuple #[.slice none 0 0, .iface 92 (.int .i64 c)]) (by simp [results, Tryz.results38, go_sem]) rfl ⟨unhide HB1, .inr ⟨unhide HNO, _, rfl⟩⟩
end Go.Proofs.YtjbboicccddhbaaGreatDoor
