/- api.Tell at an error that has a place (*api.At): the library's errors.As takes what it wraps. -/
import Derived.Test.YtihiafgogbhjkaaGreatDoorPD1
namespace Go.Proofs.YtihiafgogbhjkaaGreatDoor
open Go.RowKit Go.Extern.Stop Go.Stop Go.Extern

theorem typeOfA (v : Value) (w : World) : (ReflectliteType.typeOf #[.iface 119 v]).run Tryz.prog w = .ok (.iface 212 (.agg #[.pointer (some ⟨8, 119, none⟩)])) w := by kernel_rfl
theorem assignableA (w : World) : (ReflectliteType.relation "AssignableTo" ReflectliteType.assignableTo #[.agg #[.pointer (some ⟨8, 119, none⟩)], .iface 212 (.agg #[.pointer (some ⟨8, 35, none⟩)])]).run Tryz.prog w = .ok (.bool false) w := by kernel_rfl

theorem noAsA (v : Value) (xT : TypeId) (w : World) : (Instr.typeAssert (.iface 119 v) xT 217 true).run Tryz.prog w = .ok (.tuple #[.nilIface, .bool false]) w := run_typeAssert_lacksB Tryz.underlying217 (by kernel_rfl) (by kernel_rfl) v xT w
theorem unwrapA (v : Value) (xT : TypeId) (w : World) : (Instr.typeAssert (.iface 119 v) xT 194 true).run Tryz.prog w = .ok (.tuple #[.iface 119 v, .bool true]) w := run_typeAssert_hasB Tryz.underlying194 (by kernel_rfl) v xT w

theorem methodUnwrapA (q : Option Addr) (w : World) : (Go.method 374 119 (.pointer q) "Unwrap").run Tryz.prog w = .ok (242, .pointer q) w := by kernel_rfl

set_option maxHeartbeats 8000000 in
set_option maxRecDepth 100000 in
theorem tell_at (n p : Int) (a : Nat) (w : World) (ha0 : w.cell? ⟨a, 0, none⟩ = some (.int .i64 n)) (_ha1 : w.cell? ⟨a, 1, none⟩ = some (.int .i64 p)) (hg : w.cell? ⟨1, 0, none⟩ = some (.iface 212 (.agg #[.pointer (some ⟨8, 32, none⟩)]))) :
    Calls Tryz.prog 36 #[.iface 119 (.pointer (some ⟨a, 0, none⟩))] w fun e w' => e = .returned (.int .i64 n) ∧ But [] w w' := by
  have h22 := @run_callFunc_extern Tryz.prog 150 _ (fun args => ReflectliteValue.unpack (args.getD 0 (.tuple #[]))) Tryz.func150 (by kernel_rfl) (by kernel_rfl) (by kernel_rfl) (by kernel_rfl)
  have h23 := @run_callFunc_extern Tryz.prog 151 _ (ReflectliteValue.methodAny (ReflectliteValue.valueError "reflectlite.Value.Type" 0) (fun t _ _ _ => ReflectliteType.toType t)) Tryz.func151 (by kernel_rfl) (by kernel_rfl) (by kernel_rfl) (by kernel_rfl)
  have h24 := @run_callFunc_extern Tryz.prog 152 _ (ReflectliteValue.method (ReflectliteValue.valueError "reflectlite.Value.IsNil" 0) ReflectliteValue.isNil) Tryz.func152 (by kernel_rfl) (by kernel_rfl) (by kernel_rfl) (by kernel_rfl)
  have h128 := @run_callFunc_extern Tryz.prog 236 _ (ReflectliteType.abiMethod fun t => do pure (.int .u8 (← Rtype.kind t))) Tryz.func236 (by kernel_rfl) (by kernel_rfl) (by kernel_rfl) (by kernel_rfl)
  have h141 := @run_callFunc_extern Tryz.prog 250 _ (ReflectliteType.method ReflectliteType.elem) Tryz.func250 (by kernel_rfl) (by kernel_rfl) (by kernel_rfl) (by kernel_rfl)
  have h142 := @run_callFunc_extern Tryz.prog 251 _ (ReflectliteType.relation "Implements" ReflectliteType.implements_) Tryz.func251 (by kernel_rfl) (by kernel_rfl) (by kernel_rfl) (by kernel_rfl)
  have h40 := @run_callFunc_extern Tryz.prog 188 _ ReflectliteType.typeOf Tryz.func188 (by kernel_rfl) (by kernel_rfl) (by kernel_rfl) (by kernel_rfl)
  have h139 := @run_callFunc_extern Tryz.prog 248 _ (ReflectliteType.relation "AssignableTo" ReflectliteType.assignableTo) Tryz.func248 (by kernel_rfl) (by kernel_rfl) (by kernel_rfl) (by kernel_rfl)
  have h41 := @run_callFunc_extern Tryz.prog 189 _ (ReflectliteValue.method (ReflectliteValue.valueError "reflectlite.Value.Elem" 0) ReflectliteValue.elem) Tryz.func189 (by kernel_rfl) (by kernel_rfl) (by kernel_rfl) (by kernel_rfl)
  have h42 := @run_callFunc_extern Tryz.prog 190 _ ReflectliteValue.set Tryz.func190 (by kernel_rfl) (by kernel_rfl) (by kernel_rfl) (by kernel_rfl)
  have tO := typeOfE
  have mA := methodAssignableTo
  have aE := assignableE
  have vE := valueOfE
  have vT := valueOfT
  have tT := typeT
  have mK := methodKind
  have mE := methodElem
  have mI := methodImplements
  have kT := kindT
  have kE := kindE
  have eT := elemT
  have iE := implementsE
  have nT := isNilT
  have eV := elemVT
  have st := setE ⟨w.heap.size, 0, none⟩ ⟨w.heap.size + 1 + 1 + 1 + 1, 0, none⟩ n (.int .i64 0) (((((w.alloc (.cells #[.int .i64 0] 35)).alloc (.cells #[.pointer (some ⟨w.heap.size, 0, none⟩)] 110)).alloc (.cells #[.pointer (some ⟨8, 110, none⟩), .pointer (some ⟨w.heap.size + 1, 0, none⟩), .int .u64 150] 171)).alloc (.cells #[.pointer (some ⟨8, 110, none⟩), .pointer (some ⟨w.heap.size + 1, 0, none⟩), .int .u64 150] 171)).alloc (.cells #[.int .i64 n] 35))
    (by rw [World.cell?_alloc_at _ _ _ _ (by simp)]; rfl)
    (by rw [World.cell?_alloc_lt _ _ _ (by simp; omega), World.cell?_alloc_lt _ _ _ (by simp; omega), World.cell?_alloc_lt _ _ _ (by simp; omega), World.cell?_alloc_lt _ _ _ (by simp), World.cell?_alloc_new]; rfl)
    (by rw [World.frozen?_alloc_old _ _ _ (by simp; omega), World.frozen?_alloc_old _ _ _ (by simp; omega), World.frozen?_alloc_old _ _ _ (by simp; omega), World.frozen?_alloc_old _ _ _ (by simp), World.frozen?_alloc_new])
  have tA := typeOfA
  have aA := assignableA
  have nA := noAsA
  have uA := unwrapA
  have mU := methodUnwrapA
  have hlt : 1 < w.heap.size := lt_of_cell hg
  have hlta : a < w.heap.size := lt_of_cell ha0
  have hg3 : ∀ o1 o2 o3, (((w.alloc o1).alloc o2).alloc o3).cell? ⟨1, 0, none⟩ = some (.iface 212 (.agg #[.pointer (some ⟨8, 32, none⟩)])) := fun o1 o2 o3 => by
    rw [World.cell?_alloc_lt _ _ ⟨1, 0, none⟩ (by first | (simp; done) | (simp; omega)), World.cell?_alloc_lt _ _ ⟨1, 0, none⟩ (by first | (simp; done) | (simp; omega)), World.cell?_alloc_lt _ _ ⟨1, 0, none⟩ hlt]; exact hg
  have ha4 : ∀ o1 o2 o3 o4, ((((w.alloc o1).alloc o2).alloc o3).alloc o4).cell? ⟨a, 0, none⟩ = some (.int .i64 n) := fun o1 o2 o3 o4 => by
    rw [World.cell?_alloc_lt _ _ ⟨a, 0, none⟩ (by first | (simp; done) | (simp; omega)), World.cell?_alloc_lt _ _ ⟨a, 0, none⟩ (by first | (simp; done) | (simp; omega)), World.cell?_alloc_lt _ _ ⟨a, 0, none⟩ (by first | (simp; done) | (simp; omega)), World.cell?_alloc_lt _ _ ⟨a, 0, none⟩ hlta]; exact ha0
  go_enter Tryz.func36, Tryz.ntmps36
  go_wp2
  refine wp_loop_rounds 2 ?_
  rw [rounds_succ]
  go_wp2
  rw [rounds_succ]
  go_wp2
  go_ret
  refine ⟨rfl, ?_⟩
  repeat (first | exact But.refl _ _ | refine But.alloc ?_ _ | refine But.drew ?_ | refine But.setCell ?_ (.inr (by simp)) _)
end Go.Proofs.YtihiafgogbhjkaaGreatDoor
