/-
  strconv.Itoa.
-/
import Derived.Test.YtolpgafkojlkoaaDoorDBase
import Derived.Test.YtolpgafkojlkoaaDoorShelf
import Derived.Lib.ItoaLen
import Derived.Lib.SmallJoins
namespace Go.Proofs.YtolpgafkojlkoaaDoor.Vp
open Go.RowKit

def Pow (w : World) : Prop := Lib.TabIs Tryd.prog w "internal/strconv.uint64pow10" .u64 Lib.pow10Tab
theorem gPow : Tryd.prog.globalNamed "internal/strconv.uint64pow10" = some 1 := by kernel_rfl
theorem Pow.below {w w' : World} {B : Nat} (h : Pow w) (hb : Below B w w') (hB : w.heap.size ≤ B) : Pow w' := Joins.tab_stays gPow h hb hB

theorem Pow.low {w w' : World} {B : Nat} (h : Pow w) (hb : Below B w w') (hB : 1 < B) : Pow w' := var?_below hb gPow hB h

theorem below_of_heap {W W' : World} {os : Array Obj} {B : Nat} (h : W'.heap = W.heap ++ os) (h1 : W'.os = W.os) (h2 : W'.tape = W.tape) (h3 : W'.output = W.output) (hB : B ≤ W.heap.size) : Below B W W' :=
  ⟨h1, h2, h3, by rw [h, Array.size_append]; omega, fun i hi => by rw [h, Array.getElem?_append_left (by omega)]⟩

theorem itoa_any (m : Nat) (w : World) (hm : (m : Int) ≤ 9223372036854775807) (hP : Pow w) :
    Calls Tryd.prog 33 #[.int .i64 m] w fun e w' => e = .returned (.string ⟨(Lib.decDigits m).toArray⟩) ∧ Below w.heap.size w w' := by
  refine (Tryd.strconv_Itoa (m : Int) (by omega) (by omega) _ hP).mono ?_
  rintro e w' ⟨rfl, j, os, hw⟩
  rw [Lib.itoa_nonneg]
  refine ⟨rfl, ?_⟩
  rw [hw]
  exact below_of_heap (os := os) rfl rfl rfl rfl (by simp)

end Go.Proofs.YtolpgafkojlkoaaDoor.Vp
