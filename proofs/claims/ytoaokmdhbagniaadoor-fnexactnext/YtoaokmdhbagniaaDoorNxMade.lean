/-
  A machine, made.
-/
import Derived.Test.YtoaokmdhbagniaaDoorNxRep
import Derived.Test.YtoaokmdhbagniaaDoorNxAns
import Derived.Test.YtoaokmdhbagniaaDoorVpImpl
import Derived.Deep.WholeRow
namespace Go.Proofs.YtoaokmdhbagniaaDoor.Vp
open Go.RowKit

def m0 : Mst := { S := fun _ => ⟨#[]⟩, size := 0, place := 0, steps := 0, looks := 0, t := noTurn }
def mach0 (cv : Value) : Array Value := (Array.range 61).map (m0.F cv)
theorem built0 (a : Option Addr) (n cap : Nat) : Tryd.prog.built 113 [(1, .slice a n cap)] = some (mach0 (.slice a n cap)) := by kernel_rfl
theorem infoM : (Tryd.prog.info? 113).map (·.size) = some 61 := by kernel_rfl
theorem mach0_size (cv : Value) : (mach0 cv).size = 61 := by simp [mach0]
theorem mach0_at (cv : Value) (j : Nat) (h : j < 61) : (mach0 cv)[j]? = some (m0.F cv j) := by simp [mach0, h]
theorem mach0_one (a : Option Addr) (n cap : Nat) : (mach0 (.slice a n cap)).all (·.oneCell') = true := by kernel_rfl
theorem mach0_is (w : World) (a : Option Addr) (n cap : Nat) : MAt (w.alloc (.cells (mach0 (.slice a n cap)) 113)) w.heap.size (.slice a n cap) m0 := by
  refine ⟨by simp, fun j hj => ⟨?_, ?_⟩⟩
  · rw [World.cell?_alloc_new]
    exact mach0_at _ j hj
  · simp
theorem build_is {P : Program} {ops : Array Oper} {rest : List Oper} {o : Oper} {a : Act} {w : World} {Q : Exit → Act → World → Prop} (hg : o.guard = none) (t : TypeId) (parts : Array (Nat × Operand)) (ho : o.op = .build t parts)
    (l : List (Nat × Value)) (cells : Array Value) (hl : (parts.map fun (i, x) => (i, a.eval x)).toList = l) (hb : P.built t l = some cells) (h : wpList P ops Q rest (a.put o.dst (.agg cells)) w) : wpList P ops Q (o :: rest) a w := by
  refine wpList_build hg t parts ho (by rw [hl, hb]; rfl) ?_
  rw [hl, hb]
  exact h

end Go.Proofs.YtoaokmdhbagniaaDoor.Vp
