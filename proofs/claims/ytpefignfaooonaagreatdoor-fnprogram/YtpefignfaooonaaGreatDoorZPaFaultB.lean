/-
  ParseProgram, impl: faultOf.
-/
import Derived.Test.YtpefignfaooonaaGreatDoorZPaFaultA
namespace Go.Proofs.YtpefignfaooonaaGreatDoor.Vp
open Go.RowKit Go.Extern.Stop Go.Stop Go.Extern

/-- The result's block: a code, a line. -/
def FB (w : World) (b : Nat) (x y : Value) : Prop := w.heap[b]? = some (.cells #[x, y] 26 (0, 0))
theorem FB.lt {w : World} {b : Nat} {x y : Value} (h : FB w b x y) : b < w.heap.size := (Array.getElem?_eq_some_iff.1 h).1
theorem FB.c0 {w : World} {b : Nat} {x y : Value} (h : FB w b x y) : w.cell? ⟨b, 0, none⟩ = some x := by rw [Lib.cell_of_heap h]; rfl
theorem FB.c1 {w : World} {b : Nat} {x y : Value} (h : FB w b x y) : w.cell? ⟨b, 1, none⟩ = some y := by rw [Lib.cell_of_heap h]; rfl
theorem FB.fz {w : World} {b : Nat} {x y : Value} (h : FB w b x y) (j : Nat) : w.frozen? ⟨b, j, none⟩ = false := Lib.frozen_of_heap h j
theorem FB.below {w w' : World} {b B : Nat} {x y : Value} (h : FB w b x y) (hb : Below B w w') (hB : b < B) : FB w' b x y := (hb.block b hB).trans h
theorem FB.all {w : World} {b : Nat} {x y : Value} (h : FB w b x y) (x' y' : Value) : FB ((w.setCell ⟨b, 0, none⟩ x').setCell ⟨b, 1, none⟩ y') b x' y' := by
  unfold FB at *
  simp [World.setCell, Array.getElem?_modify, h]
theorem sizeFault : (Tryz.prog.info? 26).map (·.size) = some 2 := by kernel_rfl
theorem res_fault {fn : Func} {p : Tmp} (h : fn.results = #[.cell p 26]) (tmps : Array Value) (w : World) (g : Nat) (x y : Value) (hp : tmps.getD p undef = .pointer (some ⟨g, 0, none⟩)) (hC : FB w g x y) :
    (results fn tmps).run Tryz.prog w = .ok (.agg #[x, y]) w :=
  results_cell_row h tmps w g 26 #[x, y] (0, 0) _ hp hC Tryz.underlying26 rfl sizeFault
/-- errSize and errMany hold two different errors. -/
def EM (w : World) (ps pm : Addr) : Prop := 0 < w.heap.size ∧ 2 < w.heap.size ∧ w.cell? ⟨0, 0, none⟩ = some (.iface 165 (.pointer (some ps))) ∧ w.cell? ⟨2, 0, none⟩ = some (.iface 165 (.pointer (some pm))) ∧ ps ≠ pm ∧ (∃ c t, w.heap[ps.block]? = some (.cells c t (0, 0))) ∧ ∃ c t, w.heap[pm.block]? = some (.cells c t (0, 0))
theorem EM.below {w w' : World} {ps pm : Addr} {B : Nat} (h : EM w ps pm) (hb : Below B w w') (hB : w.heap.size ≤ B) : EM w' ps pm := by
  obtain ⟨h1, h2, h3, h4, h5, ⟨c, t, h6⟩, c', t', h7⟩ := h
  have q6 := (Array.getElem?_eq_some_iff.1 h6).1
  have q7 := (Array.getElem?_eq_some_iff.1 h7).1
  exact ⟨Nat.lt_of_lt_of_le h1 hb.size, Nat.lt_of_lt_of_le h2 hb.size, (hb.cell (p := ⟨0, 0, none⟩) (Nat.lt_of_lt_of_le h1 hB)).trans h3, (hb.cell (p := ⟨2, 0, none⟩) (Nat.lt_of_lt_of_le h2 hB)).trans h4, h5, ⟨c, t, (hb.block ps.block (Nat.lt_of_lt_of_le q6 hB)).trans h6⟩, c', t', (hb.block pm.block (Nat.lt_of_lt_of_le q7 hB)).trans h7⟩
theorem ET.below {w w' : World} {B : Nat} (h : ET w) (hb : Below B w w') (hB : w.heap.size ≤ B) : ET w' :=
  ⟨Nat.lt_of_lt_of_le h.1 hb.size, (hb.cell (p := ⟨7, 0, none⟩) (Nat.lt_of_lt_of_le h.1 hB)).trans h.2⟩

set_option maxRecDepth 100000 in
set_option maxHeartbeats 1000000 in
theorem faultOf_line (n : Int) (er : Value) (w : World) (hg : ET w) (her : er.oneCell' = true) :
    Calls Tryz.prog 19 #[.iface 72 (.agg #[.int .i64 n, er])] w fun e w' => e = .returned (.agg #[.int .i64 2, .int .i64 n]) ∧ Below w.heap.size w w' := by
  have A0 := hide ((Below.refl w.heap.size w).alloc (Nat.le_refl _) (.cells #[.int .i64 0, .int .i64 0] 26))
  have A1 := hide (A0.out.alloc A0.out.size (.cells #[.int .i64 0, .nilIface] 72))
  have z1 : ((w.alloc (.cells #[.int .i64 0, .int .i64 0] 26)).alloc (.cells #[.int .i64 0, .nilIface] 72)).heap.size = w.heap.size + 2 := by simp
  have F1 : Hid (FB ((w.alloc (.cells #[.int .i64 0, .int .i64 0] 26)).alloc (.cells #[.int .i64 0, .nilIface] 72)) w.heap.size (.int .i64 0) (.int .i64 0)) := by
    show _ = _
    rw [heap_alloc_old _ _ (by simp)]
    exact heap_alloc_new w _
  have T1 : Hid (LE ((w.alloc (.cells #[.int .i64 0, .int .i64 0] 26)).alloc (.cells #[.int .i64 0, .nilIface] 72)) (w.heap.size + 1) (.int .i64 0) .nilIface) := heap_alloc2_new w _ _
  have G1 := hide (hg.below A1.out (Nat.le_refl _))
  clear hg
  go_enter Tryz.func19, Tryz.ntmps19
  go_wp2_with fail
  generalize (w.alloc (.cells #[.int .i64 0, .int .i64 0] 26)).alloc (.cells #[.int .i64 0, .nilIface] 72) = W1 at A1 z1 F1 T1 G1 ⊢
  refine (as_hit n er (w.heap.size + 1) W1 G1.out her T1.out).mono ?_
  rintro e w2 ⟨rfl, hT, hz, hk, ho, ht, hp⟩
  have F2 : Hid (FB w2 w.heap.size (.int .i64 0) (.int .i64 0)) := (hk w.heap.size (by omega) (by omega)).trans F1.out
  have B2 : Hid (Below w.heap.size w w2) := ⟨ho.trans A1.out.os, ht.trans A1.out.tape, hp.trans A1.out.output, by omega, fun b hb => (hk b (by omega) (by omega)).trans (A1.out.block b hb)⟩
  have c0 := hT.c0
  have d0 := F2.out.c0
  have d1 := F2.out.c1
  have f0 := F2.out.fz 0
  have f1 := F2.out.fz 1
  clear hT hz hk ho ht hp
  go_wp2
  try simp only [Exit.inBlock, Exit.then]
  refine bodyPost_ret (res_fault rfl _ _ w.heap.size _ _ rfl (F2.out.all _ _)) rfl ?_
  exact ⟨rfl, (B2.out.setCell (p := ⟨w.heap.size, 0, none⟩) (Nat.le_refl _) _).setCell (p := ⟨w.heap.size, 1, none⟩) (Nat.le_refl _) _⟩

set_option maxRecDepth 100000 in
set_option maxHeartbeats 1000000 in
theorem faultOf_many (ps pm : Addr) (w : World) (hg : ET w) (hE : EM w ps pm) :
    Calls Tryz.prog 19 #[.iface 165 (.pointer (some pm))] w fun e w' => e = .returned (.agg #[.int .i64 3, .int .i64 0]) ∧ Below w.heap.size w w' := by
  have A0 := hide ((Below.refl w.heap.size w).alloc (Nat.le_refl _) (.cells #[.int .i64 0, .int .i64 0] 26))
  have A1 := hide (A0.out.alloc A0.out.size (.cells #[.int .i64 0, .nilIface] 72))
  have z1 : ((w.alloc (.cells #[.int .i64 0, .int .i64 0] 26)).alloc (.cells #[.int .i64 0, .nilIface] 72)).heap.size = w.heap.size + 2 := by simp
  have F1 : Hid (FB ((w.alloc (.cells #[.int .i64 0, .int .i64 0] 26)).alloc (.cells #[.int .i64 0, .nilIface] 72)) w.heap.size (.int .i64 0) (.int .i64 0)) := by
    show _ = _
    rw [heap_alloc_old _ _ (by simp)]
    exact heap_alloc_new w _
  have G1 := hide (hg.below A1.out (Nat.le_refl _))
  have E1 := hide (hE.below A1.out (Nat.le_refl _))
  clear hg hE
  go_enter Tryz.func19, Tryz.ntmps19
  go_wp2_with fail
  generalize (w.alloc (.cells #[.int .i64 0, .int .i64 0] 26)).alloc (.cells #[.int .i64 0, .nilIface] 72) = W1 at A1 z1 F1 G1 E1 ⊢
  refine (as_miss _ (w.heap.size + 1) W1 G1.out).mono ?_
  rintro e w2 ⟨rfl, hB⟩
  have F2 := hide (F1.out.below hB (by omega))
  have B2 := hide (A1.out.trans (hB.mono (by omega)))
  have E2 := E1.out.below hB (Nat.le_refl _)
  obtain ⟨e1, e2, e3, e4, e5, ⟨c, t, e6⟩, c', t', e7⟩ := E2
  have d0 := F2.out.c0
  have d1 := F2.out.c1
  have f0 := F2.out.fz 0
  have f1 := F2.out.fz 1
  have H6 := hide e6
  have H7 := hide e7
  clear hB e6 e7
  go_wp2_with fail
  refine (is_same pm w2).mono ?_
  rintro e w3 ⟨rfl, hw⟩
  rw [hw]
  clear hw
  go_wp2
  try simp only [Exit.inBlock, Exit.then]
  refine bodyPost_ret (res_fault rfl _ _ w.heap.size _ _ rfl (F2.out.all _ _)) rfl ?_
  exact ⟨rfl, (B2.out.setCell (p := ⟨w.heap.size, 0, none⟩) (Nat.le_refl _) _).setCell (p := ⟨w.heap.size, 1, none⟩) (Nat.le_refl _) _⟩

set_option maxRecDepth 100000 in
set_option maxHeartbeats 1000000 in
theorem faultOf_size (ps pm : Addr) (w : World) (hg : ET w) (hE : EM w ps pm) :
    Calls Tryz.prog 19 #[.iface 165 (.pointer (some ps))] w fun e w' => e = .returned (.agg #[.int .i64 1, .int .i64 0]) ∧ Below w.heap.size w w' := by
  have A0 := hide ((Below.refl w.heap.size w).alloc (Nat.le_refl _) (.cells #[.int .i64 0, .int .i64 0] 26))
  have A1 := hide (A0.out.alloc A0.out.size (.cells #[.int .i64 0, .nilIface] 72))
  have z1 : ((w.alloc (.cells #[.int .i64 0, .int .i64 0] 26)).alloc (.cells #[.int .i64 0, .nilIface] 72)).heap.size = w.heap.size + 2 := by simp
  have F1 : Hid (FB ((w.alloc (.cells #[.int .i64 0, .int .i64 0] 26)).alloc (.cells #[.int .i64 0, .nilIface] 72)) w.heap.size (.int .i64 0) (.int .i64 0)) := by
    show _ = _
    rw [heap_alloc_old _ _ (by simp)]
    exact heap_alloc_new w _
  have G1 := hide (hg.below A1.out (Nat.le_refl _))
  have E1 := hide (hE.below A1.out (Nat.le_refl _))
  clear hg hE
  go_enter Tryz.func19, Tryz.ntmps19
  go_wp2_with fail
  generalize (w.alloc (.cells #[.int .i64 0, .int .i64 0] 26)).alloc (.cells #[.int .i64 0, .nilIface] 72) = W1 at A1 z1 F1 G1 E1 ⊢
  refine (as_miss _ (w.heap.size + 1) W1 G1.out).mono ?_
  rintro e w2 ⟨rfl, hB⟩
  have F2 := hide (F1.out.below hB (by omega))
  have B2 := hide (A1.out.trans (hB.mono (by omega)))
  have E2 := E1.out.below hB (Nat.le_refl _)
  obtain ⟨e1, e2, e3, e4, e5, ⟨c, t, e6⟩, c', t', e7⟩ := E2
  have d0 := F2.out.c0
  have d1 := F2.out.c1
  have f0 := F2.out.fz 0
  have f1 := F2.out.fz 1
  have H6 := hide e6
  have H7 := hide e7
  clear hB e6 e7
  go_wp2_with fail
  refine (is_other ps pm c c' t t' w2 e5 H6.out H7.out).mono ?_
  rintro e w3 ⟨rfl, hw⟩
  rw [hw]
  clear hw
  go_wp2
  try simp only [Exit.inBlock, Exit.then]
  refine bodyPost_ret (res_fault rfl _ _ w.heap.size _ _ rfl (F2.out.all _ _)) rfl ?_
  exact ⟨rfl, (B2.out.setCell (p := ⟨w.heap.size, 0, none⟩) (Nat.le_refl _) _).setCell (p := ⟨w.heap.size, 1, none⟩) (Nat.le_refl _) _⟩

end Go.Proofs.YtpefignfaooonaaGreatDoor.Vp
