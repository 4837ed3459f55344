/- The built-in append of a byte to a row of the call's own: which block the new row lies in. -/
import Derived.Test.YtiagekhlconmcaaGreatDoorKN19
import Derived.Test.YtiagekhlconmcaaGreatDoorKPt
namespace Go.Proofs.YtiagekhlconmcaaGreatDoor
open Go.RowKit

theorem append_byte (w : World) (base : Nat) (v : Value) (ds : List UInt8) (hown : w.ownsRow base 5 1 v ds.length (ds.map u8v)) (a : Addr) (d : UInt8) (hc : w.cell? a = some (u8v d)) (hl : ds.length < 1073741824) (hb : base ≤ w.heap.size) :
    ∃ v' w', (Builtin.append_ #[91, 91] 91 #[v, .slice (some a) 1 1]).run Tryz.prog w = .ok v' w' ∧ w'.ownsRow base 5 1 v' (ds ++ [d]).length ((ds ++ [d]).map u8v) ∧ w.grownBy w' v.ownBlock ∧ (v'.ownBlock = v.ownBlock ∨ ∀ k, v'.ownBlock = some k → w.heap.size ≤ k) := by
  obtain ⟨i0, hi, hz0, hz1, hz2⟩ := info_u8
  have hnews : ∀ j u, [u8v d][j]? = some u → w.cell? (a.add j) = some u := fun j u hj => by
    cases j with
    | zero => simp at hj; subst hj; rw [show a.add 0 = a from by simp [Addr.add]]; exact hc
    | succ j => simp at hj
  have h1 : ∀ u ∈ [u8v d], u.oneCell' = true := fun u hu => by simp at hu; subst hu; rfl
  have hrun := fun (base : Nat) (ho : w.ownsRow base 5 1 v ds.length (ds.map u8v)) (hb : base ≤ w.heap.size) => run_append_own (P := Tryz.prog) w base 91 91 5 i0 (.int .u8 0) 1 1 Tryz.underlying91 hi hz0 hz1 hz2 rfl (by decide) v ds.length (ds.map u8v) ho a 1 1 [u8v d] rfl hnews h1 (by unfold maxLen; omega) (by omega) hb
  obtain ⟨v', w', hr, ho', hg', -⟩ := hrun base hown hb
  refine ⟨v', w', hr, by rw [List.length_append, List.map_append]; exact ho', hg', ?_⟩
  rcases hown.2 with ⟨rfl, -⟩ | ⟨g, cap, cur, rfl, -, hgc, hnc, hcm, hcs, htake⟩
  · have hd : ds = [] := by
      obtain ⟨hx, hy | ⟨g, cap, cur, e, -⟩⟩ := hown
      · exact List.eq_nil_of_length_eq_zero hy.2
      · simp at e
    subst hd
    obtain ⟨v2, w2, hr2, ho2, -, -⟩ := hrun w.heap.size (World.ownsRow_nil _ _ _ _) (Nat.le_refl _)
    rw [hr] at hr2
    simp only [Result.ok.injEq] at hr2
    obtain ⟨rfl, rfl⟩ := hr2
    exact .inr fun k hk => (ho2.lt k hk).1
  · by_cases hroom : ds.length + 1 ≤ cap
    · have h2 := run_append_room (P := Tryz.prog) w 91 91 5 i0 Tryz.underlying91 hi g ds.length cap cur hgc a 1 1 [u8v d] (by rw [hz1]; rfl) hnews h1 hroom (by rw [hz1, hcs]; simp; omega)
      rw [hr] at h2
      simp only [Result.ok.injEq] at h2
      rw [h2.1]
      exact .inl rfl
    · have h2 := run_append_grow (P := Tryz.prog) w 91 91 5 i0 (.int .u8 0) Tryz.underlying91 hi hz0 ⟨g, 0, none⟩ ds.length cap (ds.map u8v) (by rw [hz1]; simp) (hown.cells rfl) a 1 1 [u8v d] (by rw [hz1]; rfl) hnews (by omega) (by omega) (growslice_fits (by omega) (by rw [hz2]; omega))
      rw [hr] at h2
      simp only [Result.ok.injEq] at h2
      rw [h2.1]
      refine .inr fun k hk => ?_
      simp only [Value.ownBlock, Option.some.injEq] at hk
      omega
end Go.Proofs.YtiagekhlconmcaaGreatDoor
