/-
  errors.As at a target of a struct type: the walks.
-/
import Derived.Test.YtdbheeglklgmbaaGreatDoorPaErr
import Derived.WalkKit
import Derived.Laws.IdiomCopy
namespace Go.Proofs.YtdbheeglklgmbaaGreatDoor.Vp
open Go.RowKit Go.Extern.Stop Go.Stop Go.Extern

set_option linter.unusedSimpArgs false in
theorem as_set (t b : Nat) (n : Int) (e o0 o1 : Value) (W : World) (he : e.oneCell' = true) (hb0 : W.cell? ⟨b, 0, none⟩ = some (.int .i64 n)) (hb1 : W.cell? ⟨b, 1, none⟩ = some e)
    (h0 : W.cell? ⟨t, 0, none⟩ = some o0) (h1 : W.cell? ⟨t, 1, none⟩ = some o1) (hf : W.frozen? ⟨t, 0, none⟩ = false) (hf1 : W.frozen? ⟨t, 1, none⟩ = false) :
    (ReflectliteValue.set #[.agg #[.pointer (some ⟨16, 55, none⟩), .pointer (some ⟨t, 0, none⟩), .int .u64 409], .agg #[.pointer (some ⟨16, 55, none⟩), .pointer (some ⟨b, 0, none⟩), .int .u64 153]]).run Tryz.prog W
      = .ok (.tuple #[]) ((W.setCell ⟨t, 0, none⟩ (.int .i64 n)).setCell ⟨t, 1, none⟩ e) := by
  show (ReflectliteValue.parts (.agg #[.pointer (some ⟨16, 55, none⟩), .pointer (some ⟨t, 0, none⟩), .int .u64 409]) >>= fun p => ReflectliteValue.parts (.agg #[.pointer (some ⟨16, 55, none⟩), .pointer (some ⟨b, 0, none⟩), .int .u64 153]) >>= _).run Tryz.prog W = _
  simp only [Sem.run_bind, as_partsA, as_partsL, Result.andThen]
  simp [ReflectliteValue.flagAddr, loadVar, isAgg, underlying, Tryz.underlying55, hb0, hb1, Result.andThen, as_direct, storeVar, Value.cells, storeCells, Addr.add]
  have hld : (loadCells ⟨b, 0, none⟩ 2).run Tryz.prog W = .ok #[.int .i64 n, e] W := by
    refine run_loadCells_list (P := Tryz.prog) W ⟨b, 0, none⟩ [.int .i64 n, e] ?_
    intro j v hj
    match j, hj with
    | 0, hj => simp at hj; subst hj; simpa [Addr.add] using hb0
    | 1, hj => simp at hj; subst hj; simpa [Addr.add] using hb1
  have hst : (storeCells ⟨t, 0, none⟩ [.int .i64 n, e] 0).run Tryz.prog W = .ok () ((W.setCell ⟨t, 0, none⟩ (.int .i64 n)).setCell ⟨t, 1, none⟩ e) := by
    refine (run_storeCells_cells (P := Tryz.prog) t 0 [.int .i64 n, e] 0 W ?_ ?_ ?_).trans ?_
    · intro j hj
      match j, hj with
      | 0, _ => simp [h0]
      | 1, _ => simp [h1]
    · intro j hj
      match j, hj with
      | 0, _ => simpa using hf
      | 1, _ => simpa using hf1
    · intro v hv
      simp at hv
      rcases hv with rfl | rfl
      · rfl
      · exact he
    · simp [World.setCells]
  rw [hld]
  simp [hst]

end Go.Proofs.YtdbheeglklgmbaaGreatDoor.Vp
