/- Bits of package tontineref, and the law WaveMany. -/
import Derived.Test.YtinhoigcajddpaaDoorKD1
import Derived.Test.YtinhoigcajddpaaDoorKWC
namespace Go.Proofs.YtinhoigcajddpaaDoor
open Go.RowKit

theorem order_no (x : Nat) (h : isNo x = true) : (FloatKind.f64.format.order x x != some Ordering.eq) = true := by
  show ((Ieee.double.read x).order (Ieee.double.read x) != some Ordering.eq) = true
  unfold isNo at h
  cases e : Ieee.double.read x with
  | nan s t => rfl
  | number s m t => rw [e] at h; simp [Ieee.Datum.isNaN] at h
  | infinity s => rw [e] at h; simp [Ieee.Datum.isNaN] at h
theorem can_cases {x y : Nat} (h : can x = can y) : x = y ∨ (isNo x = true ∧ isNo y = true) := by
  unfold can at h
  cases hx : isNo x <;> cases hy : isNo y <;> simp [hx, hy] at h
  · exact .inl h
  · exact .inr ⟨rfl, rfl⟩
theorem bits_entry (x : Nat) (w : World) : (callFunc 14 #[.float .f64 x]).run Tryd.prog w = .ok (.value (.int .u64 (x : Int))) w := by
  rw [run_callFunc_extern (e := Extern.MathFloatBits.float64bits) Tryd.func14 (by kernel_rfl) (by kernel_rfl) (by kernel_rfl) (by kernel_rfl)]
  rfl
set_option maxHeartbeats 2000000 in
set_option maxRecDepth 100000 in
theorem bits_any (x y : Nat) (h : can x = can y) (w : World) : Calls Tryd.prog 7 #[.float .f64 x, .float .f64 y] w fun e w' => ∃ v, e = .returned v ∧ v = .bool true ∧ w' = w := by
  have he := bits_entry
  rcases can_cases h with rfl | ⟨h1, h2⟩
  · clear h
    go_enter Tryd.func7, Tryd.ntmps7
    go_wp2
    go_ret
    exact ⟨_, rfl, by simp, rfl⟩
  · have o1 := order_no x h1
    have o2 := order_no y h2
    clear h h1 h2
    go_enter Tryd.func7, Tryd.ntmps7
    go_wp2
    all_goals
      go_ret
      exact ⟨_, rfl, by simp, rfl⟩
set_option maxHeartbeats 2000000 in
theorem tell_nilW (w : World) : Calls Tryd.prog 6 #[.nilIface] w fun e w' => e = .returned (.int .i64 0) ∧ w' = w := by
  go_enter Tryd.func6, Tryd.ntmps6
  go_wp2
  go_ret
  exact ⟨rfl, rfl⟩
theorem run_callB (a : Act) (w : World) (d : Option Nat) (t1 t2 : Nat) (u : TypeId) (ps : String) (ed : Array Edge) (x y : Value) (h1 : a.eval (.tmp t1) = x) (h2 : a.eval (.tmp t2) = y) :
    (execOp a.eval { dst := d, op := Op.call { callee := Callee.value (Operand.func 7), args := #[Operand.tmp t1, Operand.tmp t2], argTypes := #[32, 32] }, type := u, pos := ps, after := ed, guard := none }).run Tryd.prog w = .ok (.enter 7 #[x, y]) w := by
  subst h1 h2
  kernel_rfl

def we0 : Oper := { dst := some 42, op := Op.move (Operand.tmp 5), type := 22, pos := "law.go:799", after := #[], guard := none }
def we1 : Oper := { dst := some 43, op := Op.move (Operand.tmp 9), type := 3, pos := "law.go:799", after := #[], guard := none }
def we2 : Oper := { dst := some 44, op := Op.indexAddr 22 (Operand.tmp 42) (Operand.tmp 43), type := 0, pos := "law.go:799", after := #[{ on := 0, ground := Ground.data }, { on := 1, ground := Ground.data }], guard := none }
def we3 : Oper := { dst := some 45, op := Op.load 32 (Operand.tmp 44), type := 32, pos := "law.go:799", after := #[{ on := 2, ground := Ground.data }], guard := none }
def we4 : Oper := { dst := some 46, op := Op.move (Operand.tmp 7), type := 22, pos := "law.go:799", after := #[], guard := none }
def we5 : Oper := { dst := some 47, op := Op.move (Operand.tmp 9), type := 3, pos := "law.go:799", after := #[], guard := none }
def we6 : Oper := { dst := some 48, op := Op.indexAddr 22 (Operand.tmp 46) (Operand.tmp 47), type := 0, pos := "law.go:799", after := #[{ on := 4, ground := Ground.data }, { on := 5, ground := Ground.data }], guard := none }
def we7 : Oper := { dst := some 49, op := Op.load 32 (Operand.tmp 48), type := 32, pos := "law.go:799", after := #[{ on := 6, ground := Ground.data }], guard := none }
def we8 : Oper := { dst := some 50, op := Op.call { callee := Callee.value (Operand.func 7), args := #[Operand.tmp 45, Operand.tmp 49], argTypes := #[32, 32] }, type := 4, pos := "law.go:799", after := #[{ on := 3, ground := Ground.data }, { on := 7, ground := Ground.data }], guard := none }
def we9 : Oper := { dst := some 51, op := Op.unOp UnOp.not 4 (Operand.tmp 50), type := 4, pos := "law.go:799", after := #[{ on := 8, ground := Ground.data }], guard := none }
def wes : Array Oper := #[we0, we1, we2, we3, we4, we5, we6, we7, we8, we9]
def weT (i : Nat) : Nat := match i with
  | 0 => 42
  | 1 => 43
  | 2 => 44
  | 3 => 45
  | 4 => 46
  | 5 => 47
  | 6 => 48
  | 7 => 49
  | 8 => 50
  | _ => 51
theorem weT_inj : ∀ i j, i < 10 → j < 10 → weT i = weT j → i = j := fun i j hi hj => (by decide : ∀ i, i < 10 → ∀ j, j < 10 → weT i = weT j → i = j) i hi j hj
def weV (b off c b' off' c' n k x y : Nat) (i : Nat) : Value := match i with
  | 0 => .slice (some ⟨b, off, none⟩) n c
  | 1 => .int .i64 (k : Int)
  | 2 => .pointer (some ⟨b, off + k, none⟩)
  | 3 => .float .f64 x
  | 4 => .slice (some ⟨b', off', none⟩) n c'
  | 5 => .int .i64 (k : Int)
  | 6 => .pointer (some ⟨b', off' + k, none⟩)
  | 7 => .float .f64 y
  | 8 => .bool true
  | _ => .bool false
set_option maxHeartbeats 4000000 in
set_option maxRecDepth 100000 in
theorem many_r10 (id : Nat) (Q : Exit → Act → World → Prop) (base : Act) (W0 : World) (b off c b' off' c' n k x y : Nat) (hs : 51 < base.tmps.size) (e5 : base.eval (.tmp 5) = .slice (some ⟨b, off, none⟩) n c) (e7 : base.eval (.tmp 7) = .slice (some ⟨b', off', none⟩) n c') (e9 : base.eval (.tmp 9) = .int .i64 (k : Int))
    (hk : k < n) (hn : n ≤ 1000) (c0 : W0.cell? ⟨b, off + k, none⟩ = some (.float .f64 x)) (c1 : W0.cell? ⟨b', off' + k, none⟩ = some (.float .f64 y)) (hxy : can x = can y)
    (hQ : ∀ q, Q .normal (putted base [(42, .slice (some ⟨b, off, none⟩) n c), (43, .int .i64 (k : Int)), (44, .pointer (some ⟨b, off + k, none⟩)), (45, .float .f64 x), (46, .slice (some ⟨b', off', none⟩) n c'), (47, .int .i64 (k : Int)), (48, .pointer (some ⟨b', off' + k, none⟩)), (49, .float .f64 y), (50, .bool true), (51, .bool false)]) (W0.drewN q)) :
    (Code.region id wes true).wp Tryd.prog Q base W0 := by
  have hT : ∀ i, i < 10 → weT i < base.tmps.size := fun i hi => by
    have h : weT i ≤ 51 := by revert i; decide
    omega
  refine region_namesW (by kernel_rfl) (low_ofW (by kernel_rfl)) (bare_ofW (by kernel_rfl)) (fun (_ : Unit) _ w => ∃ q, w = W0.drewN q) (fun _ => weV b off c b' off' c' n k x y) weT 10 rfl weT_inj hT () ⟨1, rfl⟩ ?_ ?_
  · intro N dn i o a w K hi ho hdi hcl hH he hdep hK
    obtain ⟨q, rfl⟩ := hH
    have hD := dep_isW (ps := [(2, 0), (2, 1), (3, 2), (6, 4), (6, 5), (7, 6), (8, 3), (8, 7), (9, 8)]) (by kernel_rfl) ho (fun j => dn j = true ∧ a.eval (.tmp (weT j)) = weV b off c b' off' c' n k x y j) hdep
    have e5' := (he 5 (fun j hj e => absurd e.symm (by revert j; decide))).trans e5
    have e7' := (he 7 (fun j hj e => absurd e.symm (by revert j; decide))).trans e7
    have e9' := (he 9 (fun j hj e => absurd e.symm (by revert j; decide))).trans e9
    have hk' : ∀ v, v = weV b off c b' off' c' n k x y i → K (a.put (some (weT i)) v) (W0.drewN q) := fun v hv => hK () v _ hv (fun _ _ _ => rfl) ⟨q, rfl⟩
    have : i = 0 ∨ i = 1 ∨ i = 2 ∨ i = 3 ∨ i = 4 ∨ i = 5 ∨ i = 6 ∨ i = 7 ∨ i = 8 ∨ i = 9 := by omega
    rcases this with rfl | rfl | rfl | rfl | rfl | rfl | rfl | rfl | rfl | rfl
    · obtain rfl := Option.some.inj ((show wes[0]? = some we0 from rfl).symm.trans ho)
      exact does_valueW (run_mvW _ _ _ _ _ _ _ _ e5') (hk' _ rfl)
    · obtain rfl := Option.some.inj ((show wes[1]? = some we1 from rfl).symm.trans ho)
      exact does_valueW (run_mvW _ _ _ _ _ _ _ _ e9') (hk' _ rfl)
    · obtain rfl := Option.some.inj ((show wes[2]? = some we2 from rfl).symm.trans ho)
      have d0 := (hD 0 (by simp)).2
      have d1 := (hD 1 (by simp)).2
      exact does_valueW (run_ixF _ _ _ _ _ _ _ _ b off n c k d0 d1 hk hn) (hk' _ rfl)
    · obtain rfl := Option.some.inj ((show wes[3]? = some we3 from rfl).symm.trans ho)
      have d2 := (hD 2 (by simp)).2
      exact does_valueW (run_ldF _ _ _ _ _ _ _ b (off + k) x d2 c0) (hk' _ rfl)
    · obtain rfl := Option.some.inj ((show wes[4]? = some we4 from rfl).symm.trans ho)
      exact does_valueW (run_mvW _ _ _ _ _ _ _ _ e7') (hk' _ rfl)
    · obtain rfl := Option.some.inj ((show wes[5]? = some we5 from rfl).symm.trans ho)
      exact does_valueW (run_mvW _ _ _ _ _ _ _ _ e9') (hk' _ rfl)
    · obtain rfl := Option.some.inj ((show wes[6]? = some we6 from rfl).symm.trans ho)
      have d4 := (hD 4 (by simp)).2
      have d5 := (hD 5 (by simp)).2
      exact does_valueW (run_ixF _ _ _ _ _ _ _ _ b' off' n c' k d4 d5 hk hn) (hk' _ rfl)
    · obtain rfl := Option.some.inj ((show wes[7]? = some we7 from rfl).symm.trans ho)
      have d6 := (hD 6 (by simp)).2
      exact does_valueW (run_ldF _ _ _ _ _ _ _ b' (off' + k) y d6 c1) (hk' _ rfl)
    · obtain rfl := Option.some.inj ((show wes[8]? = some we8 from rfl).symm.trans ho)
      have d3 := (hD 3 (by simp)).2
      have d7 := (hD 7 (by simp)).2
      refine does_enterW (run_callB _ _ _ _ _ _ _ _ (.float .f64 x) (.float .f64 y) d3 d7) (bits_any x y hxy _) ?_
      rintro v w' ⟨rfl, rfl⟩
      exact hk' _ rfl
    · obtain rfl := Option.some.inj ((show wes[9]? = some we9 from rfl).symm.trans ho)
      have d8 := (hD 8 (by simp)).2
      exact does_valueW (run_notW _ _ _ _ _ _ _ true d8) (hk' _ rfl)
  · rintro N d w hd ⟨q, rfl⟩
    exact hQ q

set_option maxHeartbeats 8000000 in
set_option maxRecDepth 100000 in
theorem waveMany_any (v : Value) (m : Nat) (f : Nat → Option Nat) (n : Int) (hn : -9223372036854775808 ≤ n ∧ n < 9223372036854775808) (w : World) (hv : FAt w v m f) (hm : m < 9223372036854775808) (hg : w.cell? ⟨0, 0, none⟩ = some (.iface 66 (.agg #[.pointer (some ⟨2, 24, none⟩)]))) :
    Calls Tryd.prog 3 #[v, .int .i64 n] w fun e w' => e = .returned (.bool true) ∧ But [] w w' := by
  have mixed : Tryd.prog.follows .mixedOrders = true := by kernel_rfl
  have fail_ : ∀ (c : Int), m ≤ 300 → (Calls Tryd.prog 4 #[v, .int .i64 n] w fun r w' => r = .returned (.tuple #[.slice none 0 0, .iface 27 (.int .i64 c)]) ∧ But [] w w') → (∀ W, But [] w W → Calls Tryd.prog 5 #[v, .int .i64 n] W fun r w' => r = .returned (.tuple #[.slice none 0 0, .int .i64 c]) ∧ But [] W w') → Calls Tryd.prog 3 #[v, .int .i64 n] w fun e w' => e = .returned (.bool true) ∧ But [] w w' := fun c h300 h1 h2 => by
    obtain ⟨a, cap, rfl, -, -⟩ := hv
    have H1 := hide h1
    have H2 := hide h2
    have HG := hide hg
    clear h1 h2 hg
    go_enter Tryd.func3, Tryd.ntmps3
    go_wp2_with fail
    refine (unhide H1).mono ?_
    rintro r w1 ⟨rfl, hb1⟩
    have B1 := hide hb1
    clear hb1
    go_wp2_with fail
    refine (unhide H2 w1 (unhide B1)).mono ?_
    rintro r w2 ⟨rfl, hb2⟩
    have B2 := hide ((unhide B1).trans' hb2)
    clear hb2
    go_wp2_with fail
    refine (tell_errno c w2 ((unhide B2).cell_some (unhide HG) (by simp))).mono ?_
    rintro r w3 ⟨rfl, hb3⟩
    have B3 := hide ((unhide B2).trans' hb3)
    clear hb3
    go_wp2
    refine wp_loop_rounds 1 ?_
    rw [rounds_succ]
    go_wp2
    go_ret
    exact ⟨rfl, unhide B3⟩
  by_cases h300 : 300 < m
  · obtain ⟨a, cap, rfl, -, -⟩ := hv
    clear fail_
    go_enter Tryd.func3, Tryd.ntmps3
    go_wp2
    go_ret
    exact ⟨rfl, But.refl _ _⟩
  · by_cases hr : n < 0 ∨ 200 < n
    · exact fail_ 2 (by omega) ((many_range v n hr w).mono fun e w' ⟨h1, h2⟩ => ⟨h1, by rw [h2]; exact But.refl _ _⟩) (fun W _ => (many8_range v n hr W).mono fun e w' ⟨h1, h2⟩ => ⟨h1, by rw [h2]; exact But.refl _ _⟩)
    · obtain ⟨k, rfl⟩ : ∃ k : Nat, n = (k : Int) := ⟨n.toNat, by omega⟩
      have hk : k ≤ 200 := by omega
      by_cases hp : ∃ e, e ≤ 8 ∧ m = 2 ^ e
      · obtain ⟨e, h8, rfl⟩ := hp
        clear fail_
        have h1 := many_any e h8 v f k hk w hv
        have h2 := fun W (hb : But [] w W) => many8_any e h8 v f k hk W (hv.but hb)
        obtain ⟨F, hF⟩ : ∃ F, F = mf e k f := ⟨_, rfl⟩
        rw [← hF] at h1 h2
        obtain ⟨m, hm'⟩ : ∃ m, m = 2 ^ e := ⟨_, rfl⟩
        rw [← hm'] at h1 h2 h300 hv
        obtain ⟨a, cap, rfl, -, -⟩ := hv
        have H1 := hide h1
        have H2 := hide h2
        clear h1 h2 hF hm' hr hm hn
        have hm3 : m ≤ 300 := by omega
        go_enter Tryd.func3, Tryd.ntmps3
        go_wp2_with fail
        refine (unhide H1).mono ?_
        rintro r w1 ⟨v1, rfl, hv1, hb1⟩
        have B1 := hide hb1
        have V1 := hide hv1
        clear hb1 hv1
        go_wp2_with fail
        refine (unhide H2 w1 (unhide B1)).mono ?_
        rintro r w2 ⟨v2, rfl, hv2, hb2⟩
        have V1' := (unhide V1).but hb2
        have B2 := hide ((unhide B1).trans' hb2)
        clear hb2 V1
        obtain ⟨a1, cap1, rfl, -, hc1⟩ := V1'
        obtain ⟨a2, cap2, rfl, -, hc2⟩ := hv2
        have C1 := hide hc1
        have C2 := hide hc2
        clear hc1 hc2
        go_wp2_with fail
        refine (tell_nilW w2).mono ?_
        rintro r w3 ⟨rfl, hw3⟩
        obtain rfl := hw3.symm
        clear hw3
        go_wp2
        go_loopw [9] (fun i wq => ∃ l : Nat, i = .int .i64 (l : Int) ∧ l ≤ m ∧ Hid (∃ q, wq = w2.drewN q)) (fun i _ => m - (intOf i).toNat)
        case atStart => exact ⟨0, rfl, by omega, 0, rfl⟩
        case round =>
          obtain ⟨l, rfl, hlm, HI⟩ := hrel
          rename World => wq
          by_cases hlt : l < m
          · obtain ⟨b, off, x, rfl, c0, e0⟩ := unhide C1 l hlt
            obtain ⟨b', off', y, rfl, c1, e1⟩ := unhide C2 l hlt
            obtain ⟨q, hq⟩ := unhide HI
            have K0 : Hid (wq.cell? ⟨b, off + l, none⟩ = some (.float .f64 x)) := by rw [hq]; exact c0
            have K1 : Hid (wq.cell? ⟨b', off' + l, none⟩ = some (.float .f64 y)) := by rw [hq]; exact c1
            have EX : Hid (can x = can y) := e0.trans e1.symm
            clear c0 c1 e0 e1 hq
            go_wp2
            refine many_r10 10 _ _ wq b off cap1 b' off' cap2 m l x y (by simp) (by simp [Act.eval]) (by simp [Act.eval]) (by simp [Act.eval]) hlt (by omega) (unhide K0) (unhide K1) (unhide EX) ?_
            intro q2
            simp only [putted, List.foldl_cons, List.foldl_nil, Act.put, List.setIfInBounds_toArray, List.set_cons_zero, List.set_cons_succ]
            go_wp2
            exact ⟨⟨l + 1, by go_num, by omega, drewN_ex (unhide HI) q2⟩, by simp [intOf]; omega⟩
          · obtain rfl : l = m := by omega
            go_wp2
            go_ret
            obtain ⟨q, hq⟩ := unhide HI
            exact ⟨rfl, by rw [hq]; exact (unhide B2).drewN q⟩
      · have hb : ∀ e, e ≤ 8 → m ≠ 2 ^ e := fun e he h => hp ⟨e, he, h⟩
        refine fail_ 4 (by omega) ?_ (fun W hW => many8_bad v m f k hk (by omega) hb W (hv.but hW))
        obtain ⟨a, cap, rfl, -, -⟩ := hv
        exact (many_bad m a cap k hk (by omega) hb w).mono fun e w' ⟨h1, h2⟩ => ⟨h1, by rw [h2]; exact But.refl _ _⟩
end Go.Proofs.YtinhoigcajddpaaDoor
