/-
  errors.As at a target of a struct type, errors.Is at a sentinel.
-/
import Derived.Test.YtdbheeglklgmbaaGreatDoorPaErrB
import Derived.Laws.Rows
import Derived.Lib.Builder
namespace Go.Proofs.YtdbheeglklgmbaaGreatDoor.Vp
open Go.RowKit Go.Extern.Stop Go.Stop Go.Extern

theorem as_mKind (h : Value) (w : World) : (Go.method 279 97 (.agg #[h]) "Kind").run Tryz.prog w = .ok (100, h) w := by kernel_rfl
theorem as_mElem (h : Value) (w : World) : (Go.method 279 97 (.agg #[h]) "Elem").run Tryz.prog w = .ok (112, .agg #[h]) w := by kernel_rfl
theorem as_mImpl (h : Value) (w : World) : (Go.method 279 97 (.agg #[h]) "Implements").run Tryz.prog w = .ok (113, .agg #[h]) w := by kernel_rfl
theorem as_mAssign (h : Value) (w : World) : (Go.method 279 97 (.agg #[h]) "AssignableTo").run Tryz.prog w = .ok (110, .agg #[h]) w := by kernel_rfl
theorem is_mComp (v : Value) (w : World) : (Go.method 279 97 v "Comparable").run Tryz.prog w = .ok (111, v) w := by kernel_rfl
/-- the model's entry for Comparable. -/
def isComp : Array Value → Sem Value := ReflectliteType.method fun t => do Rtype.noPackHeld "Comparable" t; pure (.bool (← typeInfo t).comparable)
theorem is_compS (w : World) : (isComp #[.agg #[.pointer (some ⟨16, 141, none⟩)]]).run Tryz.prog w = .ok (.bool true) w := by kernel_rfl
theorem is_infoP : (Tryz.prog.info? 141).map (·.comparable) = some true := by kernel_rfl
theorem is_infoS : (Tryz.prog.info? 143).map (·.size) = some 1 := by kernel_rfl
theorem no_As (v : Value) (xT : TypeId) (w : World) : (Instr.typeAssert (.iface 141 v) xT 101 true).run Tryz.prog w = .ok (.tuple #[.nilIface, .bool false]) w := run_typeAssert_lacksB Tryz.underlying101 (by kernel_rfl) (by kernel_rfl) v xT w
theorem no_Is (v : Value) (xT : TypeId) (w : World) : (Instr.typeAssert (.iface 141 v) xT 109 true).run Tryz.prog w = .ok (.tuple #[.nilIface, .bool false]) w := run_typeAssert_lacksB Tryz.underlying109 (by kernel_rfl) (by kernel_rfl) v xT w
theorem no_Un (v : Value) (xT : TypeId) (w : World) : (Instr.typeAssert (.iface 141 v) xT 104 true).run Tryz.prog w = .ok (.tuple #[.nilIface, .bool false]) w := run_typeAssert_lacksB Tryz.underlying104 (by kernel_rfl) (by kernel_rfl) v xT w
theorem no_Uns (v : Value) (xT : TypeId) (w : World) : (Instr.typeAssert (.iface 141 v) xT 106 true).run Tryz.prog w = .ok (.tuple #[.nilIface, .bool false]) w := run_typeAssert_lacksB Tryz.underlying106 (by kernel_rfl) (by kernel_rfl) v xT w

set_option maxHeartbeats 2000000 in
/-- errors.Is(x, x), x a pointer to an errors.errorString. -/
theorem is_same (a : Addr) (w : World) :
    Calls Tryz.prog 25 #[.iface 141 (.pointer (some a)), .iface 141 (.pointer (some a))] w fun e w' => e = .returned (.bool true) ∧ w' = w := by
  obtain ⟨i, hi, hcmp⟩ := Option.map_eq_some_iff.1 is_infoP
  obtain ⟨j, hj, hjs⟩ := Option.map_eq_some_iff.1 is_infoS
  have h8 := @run_callFunc_extern Tryz.prog 40 _ ReflectliteType.typeOf Tryz.func40 (by kernel_rfl) (by kernel_rfl) (by kernel_rfl) (by kernel_rfl)
  have h32 := @run_callFunc_extern Tryz.prog 111 _ isComp Tryz.func111 (by kernel_rfl) (by kernel_rfl) (by kernel_rfl) (by kernel_rfl)
  have tT := as_typeS
  have cT := is_compS
  have mR := is_mComp
  have heq := run_eql_iface_ptr_same (P := Tryz.prog) w a Tryz.underlying40 Tryz.underlying141 hi hcmp hj
  go_enter Tryz.func25, Tryz.ntmps25
  go_wp2
  refine wp_loop_rounds 1 ?_
  rw [rounds_succ]
  go_wp2
  go_ret
  exact ⟨rfl, rfl⟩

set_option maxHeartbeats 2000000 in
/-- errors.Is(x, y), two different pointers to errors.errorString. -/
theorem is_other (a b : Addr) (ca cb : Array Value) (ta tb : TypeId) (w : World) (hne : a ≠ b) (ha : w.heap[a.block]? = some (.cells ca ta (0, 0))) (hb : w.heap[b.block]? = some (.cells cb tb (0, 0))) :
    Calls Tryz.prog 25 #[.iface 141 (.pointer (some a)), .iface 141 (.pointer (some b))] w fun e w' => e = .returned (.bool false) ∧ w' = w := by
  obtain ⟨i, hi, hcmp⟩ := Option.map_eq_some_iff.1 is_infoP
  obtain ⟨j, hj, hjs⟩ := Option.map_eq_some_iff.1 is_infoS
  have h8 := @run_callFunc_extern Tryz.prog 40 _ ReflectliteType.typeOf Tryz.func40 (by kernel_rfl) (by kernel_rfl) (by kernel_rfl) (by kernel_rfl)
  have h32 := @run_callFunc_extern Tryz.prog 111 _ isComp Tryz.func111 (by kernel_rfl) (by kernel_rfl) (by kernel_rfl) (by kernel_rfl)
  have tT := as_typeS
  have cT := is_compS
  have mR := is_mComp
  have nE := no_Is
  have uE := no_Un
  have vE := no_Uns
  have heq := run_eql_iface_ptr_other (P := Tryz.prog) w Tryz.underlying40 Tryz.underlying141 hi hcmp hj (by rw [hjs]; decide) hne ha hb
  go_enter Tryz.func25, Tryz.ntmps25
  go_wp2
  refine wp_loop_rounds 1 ?_
  rw [rounds_succ]
  go_wp2
  go_ret
  exact ⟨rfl, rfl⟩

end Go.Proofs.YtdbheeglklgmbaaGreatDoor.Vp
