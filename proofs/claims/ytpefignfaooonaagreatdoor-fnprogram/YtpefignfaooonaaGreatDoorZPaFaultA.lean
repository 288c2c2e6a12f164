/-
  errors.As at a target of a struct type: the walks.
-/
import Derived.Test.YtpefignfaooonaaGreatDoorZPaErr
namespace Go.Proofs.YtpefignfaooonaaGreatDoor.Vp
open Go.RowKit Go.Extern.Stop Go.Stop Go.Extern

/-- The target's block: a line, an error. -/
def LE (w : World) (b : Nat) (x y : Value) : Prop := w.heap[b]? = some (.cells #[x, y] 72 (0, 0))
theorem LE.lt {w : World} {b : Nat} {x y : Value} (h : LE w b x y) : b < w.heap.size := (Array.getElem?_eq_some_iff.1 h).1
theorem LE.c0 {w : World} {b : Nat} {x y : Value} (h : LE w b x y) : w.cell? ⟨b, 0, none⟩ = some x := by rw [Lib.cell_of_heap h]; rfl
theorem LE.c1 {w : World} {b : Nat} {x y : Value} (h : LE w b x y) : w.cell? ⟨b, 1, none⟩ = some y := by rw [Lib.cell_of_heap h]; rfl
theorem LE.fz {w : World} {b : Nat} {x y : Value} (h : LE w b x y) (j : Nat) : w.frozen? ⟨b, j, none⟩ = false := Lib.frozen_of_heap h j
theorem LE.below {w w' : World} {b B : Nat} {x y : Value} (h : LE w b x y) (hb : Below B w w') (hB : b < B) : LE w' b x y := (hb.block b hB).trans h
theorem LE.all {w : World} {b : Nat} {x y : Value} (h : LE w b x y) (x' y' : Value) : LE ((w.setCell ⟨b, 0, none⟩ x').setCell ⟨b, 1, none⟩ y') b x' y' := by
  unfold LE at *
  simp [World.setCell, Array.getElem?_modify, h]
/-- What errors.errorType holds. -/
def ET (w : World) : Prop := 7 < w.heap.size ∧ w.cell? ⟨7, 0, none⟩ = some (.iface 120 (.agg #[.pointer (some ⟨16, 45, none⟩)]))

/-- the model's entry for Kind. -/
def asKind : Array Value → Sem Value := ReflectliteType.abiMethod fun t => do pure (.int .u8 (← Rtype.kind t))
theorem as_kP (w : World) : (asKind #[.pointer (some ⟨16, 76, none⟩)]).run Tryz.prog w = .ok (.int .u8 22) w := by kernel_rfl
theorem as_kL (w : World) : (asKind #[.pointer (some ⟨16, 72, none⟩)]).run Tryz.prog w = .ok (.int .u8 25) w := by kernel_rfl

set_option maxRecDepth 100000 in
set_option maxHeartbeats 4000000 in
theorem as_miss (a : Addr) (t : Nat) (w : World) (hg : ET w) :
    Calls Tryz.prog 39 #[.iface 165 (.pointer (some a)), .iface 76 (.pointer (some ⟨t, 0, none⟩))] w fun ev w' => ev = .returned (.bool false) ∧ Below w.heap.size w w' := by
  have h6 := @run_callFunc_extern Tryz.prog 60 _ (fun args => ReflectliteValue.unpack (args.getD 0 (.tuple #[]))) Tryz.func60 (by kernel_rfl) (by kernel_rfl) (by kernel_rfl) (by kernel_rfl)
  have h7 := @run_callFunc_extern Tryz.prog 61 _ (ReflectliteValue.methodAny (ReflectliteValue.valueError "reflectlite.Value.Type" 0) (fun t _ _ _ => ReflectliteType.toType t)) Tryz.func61 (by kernel_rfl) (by kernel_rfl) (by kernel_rfl) (by kernel_rfl)
  have h8 := @run_callFunc_extern Tryz.prog 62 _ (ReflectliteValue.method (ReflectliteValue.valueError "reflectlite.Value.IsNil" 0) ReflectliteValue.isNil) Tryz.func62 (by kernel_rfl) (by kernel_rfl) (by kernel_rfl) (by kernel_rfl)
  have h27 := @run_callFunc_extern Tryz.prog 122 _ asKind Tryz.func122 (by kernel_rfl) (by kernel_rfl) (by kernel_rfl) (by kernel_rfl)
  have h37 := @run_callFunc_extern Tryz.prog 135 _ (ReflectliteType.method ReflectliteType.elem) Tryz.func135 (by kernel_rfl) (by kernel_rfl) (by kernel_rfl) (by kernel_rfl)
  have h38 := @run_callFunc_extern Tryz.prog 136 _ (ReflectliteType.relation "Implements" ReflectliteType.implements_) Tryz.func136 (by kernel_rfl) (by kernel_rfl) (by kernel_rfl) (by kernel_rfl)
  have h10 := @run_callFunc_extern Tryz.prog 64 _ ReflectliteType.typeOf Tryz.func64 (by kernel_rfl) (by kernel_rfl) (by kernel_rfl) (by kernel_rfl)
  have h35 := @run_callFunc_extern Tryz.prog 133 _ (ReflectliteType.relation "AssignableTo" ReflectliteType.assignableTo) Tryz.func133 (by kernel_rfl) (by kernel_rfl) (by kernel_rfl) (by kernel_rfl)
  have tS := as_typeS
  have mA := as_mAssign
  have aS := as_assignS
  have f6 := as_valueP
  have f7 := as_typeP
  have mK := as_mKind
  have mE := as_mElem
  have mI := as_mImpl
  have kP := as_kP
  have kL := as_kL
  have eP := as_elemP
  have iL := as_implL
  have nA := no_As
  have nU := no_Un
  have nV := no_Uns
  have n8 := as_isNilP ⟨w.heap.size, 0, none⟩ ⟨t, 0, none⟩ ((w.alloc (.cells #[.pointer (some ⟨t, 0, none⟩)] 76)).alloc (.cells #[.pointer (some ⟨16, 76, none⟩), .pointer (some ⟨w.heap.size, 0, none⟩), .int .u64 150] 100)) (by simp)
  have hg2 : ((w.alloc (.cells #[.pointer (some ⟨t, 0, none⟩)] 76)).alloc (.cells #[.pointer (some ⟨16, 76, none⟩), .pointer (some ⟨w.heap.size, 0, none⟩), .int .u64 150] 100)).cell? ⟨7, 0, none⟩ = some (.iface 120 (.agg #[.pointer (some ⟨16, 45, none⟩)])) := by
    have hl := hg.1
    rw [World.cell?_alloc_lt _ _ ⟨7, 0, none⟩ (by simp; omega), World.cell?_alloc_lt _ _ ⟨7, 0, none⟩ hl]
    exact hg.2
  have hgl := hg.1
  clear hg
  go_enter Tryz.func39, Tryz.ntmps39
  go_wp2
  refine wp_loop_rounds 1 ?_
  rw [rounds_succ]
  go_wp2
  go_ret
  exact ⟨rfl, by exact (((Below.refl _ _).alloc (Nat.le_refl _) _).alloc (by simp) _).alloc (by simp; omega) _⟩

set_option maxRecDepth 100000 in
set_option maxHeartbeats 4000000 in
theorem as_hit (n : Int) (er : Value) (t : Nat) (w : World) (hg : ET w) (her : er.oneCell' = true) (hT : LE w t (.int .i64 0) .nilIface) :
    Calls Tryz.prog 39 #[.iface 72 (.agg #[.int .i64 n, er]), .iface 76 (.pointer (some ⟨t, 0, none⟩))] w fun ev w' => ev = .returned (.bool true) ∧ LE w' t (.int .i64 n) er ∧ w.heap.size ≤ w'.heap.size ∧ (∀ b, b < w.heap.size → b ≠ t → w'.heap[b]? = w.heap[b]?) ∧ w'.os = w.os ∧ w'.tape = w.tape ∧ w'.output = w.output := by
  have h6 := @run_callFunc_extern Tryz.prog 60 _ (fun args => ReflectliteValue.unpack (args.getD 0 (.tuple #[]))) Tryz.func60 (by kernel_rfl) (by kernel_rfl) (by kernel_rfl) (by kernel_rfl)
  have h7 := @run_callFunc_extern Tryz.prog 61 _ (ReflectliteValue.methodAny (ReflectliteValue.valueError "reflectlite.Value.Type" 0) (fun t _ _ _ => ReflectliteType.toType t)) Tryz.func61 (by kernel_rfl) (by kernel_rfl) (by kernel_rfl) (by kernel_rfl)
  have h8 := @run_callFunc_extern Tryz.prog 62 _ (ReflectliteValue.method (ReflectliteValue.valueError "reflectlite.Value.IsNil" 0) ReflectliteValue.isNil) Tryz.func62 (by kernel_rfl) (by kernel_rfl) (by kernel_rfl) (by kernel_rfl)
  have h27 := @run_callFunc_extern Tryz.prog 122 _ asKind Tryz.func122 (by kernel_rfl) (by kernel_rfl) (by kernel_rfl) (by kernel_rfl)
  have h37 := @run_callFunc_extern Tryz.prog 135 _ (ReflectliteType.method ReflectliteType.elem) Tryz.func135 (by kernel_rfl) (by kernel_rfl) (by kernel_rfl) (by kernel_rfl)
  have h38 := @run_callFunc_extern Tryz.prog 136 _ (ReflectliteType.relation "Implements" ReflectliteType.implements_) Tryz.func136 (by kernel_rfl) (by kernel_rfl) (by kernel_rfl) (by kernel_rfl)
  have h10 := @run_callFunc_extern Tryz.prog 64 _ ReflectliteType.typeOf Tryz.func64 (by kernel_rfl) (by kernel_rfl) (by kernel_rfl) (by kernel_rfl)
  have h35 := @run_callFunc_extern Tryz.prog 133 _ (ReflectliteType.relation "AssignableTo" ReflectliteType.assignableTo) Tryz.func133 (by kernel_rfl) (by kernel_rfl) (by kernel_rfl) (by kernel_rfl)
  have h11 := @run_callFunc_extern Tryz.prog 75 _ (ReflectliteValue.method (ReflectliteValue.valueError "reflectlite.Value.Elem" 0) ReflectliteValue.elem) Tryz.func75 (by kernel_rfl) (by kernel_rfl) (by kernel_rfl) (by kernel_rfl)
  have h12 := @run_callFunc_extern Tryz.prog 76 _ ReflectliteValue.set Tryz.func76 (by kernel_rfl) (by kernel_rfl) (by kernel_rfl) (by kernel_rfl)
  have tS := as_typeL
  have mA := as_mAssign
  have aS := as_assignL
  have f6 := as_valueP
  have f7 := as_typeP
  have mK := as_mKind
  have mE := as_mElem
  have mI := as_mImpl
  have kP := as_kP
  have kL := as_kL
  have eP := as_elemP
  have iL := as_implL
  have vL := as_valueL n er
  have n8 := as_isNilP ⟨w.heap.size, 0, none⟩ ⟨t, 0, none⟩ ((w.alloc (.cells #[.pointer (some ⟨t, 0, none⟩)] 76)).alloc (.cells #[.pointer (some ⟨16, 76, none⟩), .pointer (some ⟨w.heap.size, 0, none⟩), .int .u64 150] 100)) (by simp)
  have hg2 : ((w.alloc (.cells #[.pointer (some ⟨t, 0, none⟩)] 76)).alloc (.cells #[.pointer (some ⟨16, 76, none⟩), .pointer (some ⟨w.heap.size, 0, none⟩), .int .u64 150] 100)).cell? ⟨7, 0, none⟩ = some (.iface 120 (.agg #[.pointer (some ⟨16, 45, none⟩)])) := by
    have hl := hg.1
    rw [World.cell?_alloc_lt _ _ ⟨7, 0, none⟩ (by simp; omega), World.cell?_alloc_lt _ _ ⟨7, 0, none⟩ hl]
    exact hg.2
  have hgl := hg.1
  have hcs : (Value.agg #[.int .i64 n, er]).cells = #[.int .i64 n, er] := by simp [Value.cells]
  rw [hcs] at vL
  obtain ⟨W3, hW3⟩ : ∃ W3, W3 = (((w.alloc (.cells #[.pointer (some ⟨t, 0, none⟩)] 76)).alloc (.cells #[.pointer (some ⟨16, 76, none⟩), .pointer (some ⟨w.heap.size, 0, none⟩), .int .u64 150] 100)).alloc (.cells #[.pointer (some ⟨16, 76, none⟩), .pointer (some ⟨w.heap.size, 0, none⟩), .int .u64 150] 100)) := ⟨_, rfl⟩
  have B3 : Below w.heap.size w W3 := by rw [hW3]; exact (((Below.refl _ _).alloc (Nat.le_refl _) _).alloc (by simp) _).alloc (by simp; omega) _
  have s3 : W3.heap.size = w.heap.size + 1 + 1 + 1 := by rw [hW3]; simp
  have T3 : LE W3 t (.int .i64 0) .nilIface := hT.below B3 hT.lt
  have el := as_elemV ⟨w.heap.size, 0, none⟩ ⟨t, 0, none⟩ W3 (by rw [hW3, World.cell?_alloc_lt _ _ ⟨w.heap.size, 0, none⟩ (by simp; omega)]; simp)
  obtain ⟨W4, hW4⟩ : ∃ W4, W4 = W3.alloc (.cells #[.int .i64 n, er] 72) := ⟨_, rfl⟩
  have T4 : LE W4 t (.int .i64 0) .nilIface := by rw [hW4]; exact T3.below ((Below.refl W3.heap.size W3).alloc (Nat.le_refl _) _) T3.lt
  have N4 : LE W4 W3.heap.size (.int .i64 n) er := by rw [hW4]; exact heap_alloc_new W3 _
  have st := as_set t W3.heap.size n er (.int .i64 0) .nilIface W4 her N4.c0 N4.c1 T4.c0 T4.c1 (T4.fz 0) (T4.fz 1)
  have B4 : Below w.heap.size w W4 := by rw [hW4]; exact B3.alloc B3.size _
  have HF := hide (show LE ((W4.setCell ⟨t, 0, none⟩ (.int .i64 n)).setCell ⟨t, 1, none⟩ er) t (.int .i64 n) er ∧ w.heap.size ≤ ((W4.setCell ⟨t, 0, none⟩ (.int .i64 n)).setCell ⟨t, 1, none⟩ er).heap.size ∧ (∀ b, b < w.heap.size → b ≠ t → ((W4.setCell ⟨t, 0, none⟩ (.int .i64 n)).setCell ⟨t, 1, none⟩ er).heap[b]? = w.heap[b]?) ∧ ((W4.setCell ⟨t, 0, none⟩ (.int .i64 n)).setCell ⟨t, 1, none⟩ er).os = w.os ∧ ((W4.setCell ⟨t, 0, none⟩ (.int .i64 n)).setCell ⟨t, 1, none⟩ er).tape = w.tape ∧ ((W4.setCell ⟨t, 0, none⟩ (.int .i64 n)).setCell ⟨t, 1, none⟩ er).output = w.output from ⟨T4.all _ _, by have := B4.size; simpa [World.setCell] using this, fun b hb hne => by
    have := B4.block b hb
    rw [← this]
    simp [World.setCell, Array.getElem?_modify, Ne.symm hne], B4.os, B4.tape, B4.output⟩)
  rw [s3] at st
  clear hg hT T3 T4 N4 B4 B3 s3
  rw [hW3] at hW4 el
  rw [hW4] at st HF
  clear hW3 hW4
  go_enter Tryz.func39, Tryz.ntmps39
  go_wp2
  refine wp_loop_rounds 1 ?_
  rw [rounds_succ]
  go_wp2
  go_ret
  exact ⟨rfl, HF.out⟩

end Go.Proofs.YtpefignfaooonaaGreatDoor.Vp
