/-
  The copies of programs once more, with what they own. Written by tools/own.py.
-/
import Derived.Test.YtkikpcklccdihaaGreatDoorZA
import Derived.Test.YtkikpcklccdihaaGreatDoorZDMark
namespace Go.Proofs.YtkikpcklccdihaaGreatDoor.Vp
open Go.RowKit

theorem cells_of_row {w : World} {b n : Nat} {t : TypeId} {F : Nat → Value} (h : w.rowIs b t n F) : Cells w b 0 n F :=
  ⟨h.lt, fun j hj => by rw [Nat.zero_add]; exact ⟨h.cell hj, h.frozen j⟩⟩
theorem OwnIns.lt {w : World} {g n k : Nat} {f : Nat → Ins} (h : OwnIns w g n k f) : g < w.heap.size := by
  obtain ⟨F, hr, _⟩ := h
  exact hr.lt
theorem OwnIns.setOther {w : World} {g n k : Nat} {f : Nat → Ins} (h : OwnIns w g n k f) (p : Addr) (hp : p.block ≠ g) (v : Value) : OwnIns (w.setCell p v) g n k f := by
  obtain ⟨F, hr, hF⟩ := h
  exact ⟨F, hr.setOther (fun e => hp e.symm) v, hF⟩
theorem OwnIns.kept {w w' : World} {g n k : Nat} {f : Nat → Ins} {B : Nat} (h : OwnIns w g n k f) (hb : Below B w w') (hB : w.heap.size ≤ B) : OwnIns w' g n k f := h.below hb (Nat.lt_of_lt_of_le h.lt hB)
theorem OwnIns.cells {w : World} {g n : Nat} {f : Nat → Ins} (h : OwnIns w g n n f) : ∃ F, Cells w g 0 (n * 3) F := by
  obtain ⟨F, hr, _⟩ := h
  exact ⟨F, cells_of_row hr⟩

set_option maxHeartbeats 1000000 in
theorem toInsS_rowO (b off n cap : Nat) (f : Nat → Ins) (w : World) (hn : n ≤ 1048576) (hb : b < w.heap.size) (hf : ∀ i, i < n → AtIns w b off i (f i)) :
    Calls Tryz.prog 66 #[.slice (some ⟨b, off, none⟩) n cap] w fun e w' => ∃ g, e = .returned (.slice (some ⟨g, 0, none⟩) n n) ∧ OwnIns w' g n n f ∧ w.heap.size ≤ g ∧ Below w.heap.size w w' := by
  have HF := hide hf
  clear hf
  have hmk := mkIns n hn
  go_enter Tryz.func66, Tryz.ntmps66
  go_wp2
  clear hmk
  go_loopw [4] (fun i wr => ∃ k : Nat, k ≤ n ∧ i = .int .i64 k ∧ OwnIns wr w.heap.size n k f ∧ Below w.heap.size w wr) (fun i _ => n - (intOf i).toNat)
  case atStart => exact ⟨0, by omega, rfl, ownIns_start w n f, (Below.refl _ _).alloc (Nat.le_refl _) _⟩
  case round =>
    obtain ⟨k, hk, rfl, hO, hB⟩ := hrel
    have HO := hide hO
    by_cases hlt : k < n
    · obtain ⟨c0, c1, c2⟩ := (HF.out k hlt).below hB hb
      clear hO
      go_wp2_with fail
      refine (toIns_any _ _ _ _).mono ?_
      rintro e w1 ⟨rfl, hB1⟩
      have HO1 : Hid (OwnIns w1 w.heap.size n k f) := HO.out.below hB1 (by obtain ⟨F, hr, _⟩ := HO.out; exact hr.lt)
      obtain ⟨F, hr, _⟩ := HO1.out
      have d0 := hr.cell (i := k * 3) (by omega)
      have z0 := hr.frozen (k * 3)
      have d1 := hr.cell (i := k * 3 + 1) (by omega)
      have z1 := hr.frozen (k * 3 + 1)
      have d2 := hr.cell (i := k * 3 + 2) (by omega)
      have z2 := hr.frozen (k * 3 + 2)
      clear hr c0 c1 c2
      go_wp2
      exact ⟨⟨k + 1, by omega, by go_num, HO1.out.step, (((hB.trans (hB1.mono hB.size)).setCell (Nat.le_refl _) _).setCell (Nat.le_refl _) _).setCell (Nat.le_refl _) _⟩, by simp [intOf]; omega⟩
    · have e : k = n := by omega
      subst e
      clear hO
      go_wp2
      go_ret
      exact ⟨_, rfl, HO.out, Nat.le_refl _, hB⟩

set_option maxHeartbeats 1000000 in
theorem toInsS_nilO (a : Option Addr) (cap : Nat) (f : Nat → Ins) (w : World) :
    Calls Tryz.prog 66 #[.slice a 0 cap] w fun e w' => ∃ g, e = .returned (.slice (some ⟨g, 0, none⟩) 0 0) ∧ OwnIns w' g 0 0 f ∧ w.heap.size ≤ g ∧ Below w.heap.size w w' := by
  have hmk : ∀ w : World, (Instr.makeSlice 43 (.int .i64 0) (.int .i64 0)).run Tryz.prog w = .ok (.slice (some ⟨w.heap.size, 0, none⟩) 0 0) (w.alloc (.cells (zerosIns 0) 107)) := fun w => mkIns 0 (by omega) w
  go_enter Tryz.func66, Tryz.ntmps66
  go_wp2
  clear hmk
  go_loop [4] (fun i => i = .int .i64 0) (fun _ => 0)
  case atStart => rfl
  case round =>
    subst hrel
    go_wp2
    go_ret
    exact ⟨_, rfl, ownIns_start w 0 f, Nat.le_refl _, (Below.refl _ _).alloc (Nat.le_refl _) _⟩

theorem toInsS_anyO (a : Option Addr) (n cap : Nat) (f : Nat → Ins) (w : World) (hn : n ≤ 1048576) (hv : SlIns w a n f) :
    Calls Tryz.prog 66 #[.slice a n cap] w fun e w' => ∃ g, e = .returned (.slice (some ⟨g, 0, none⟩) n n) ∧ OwnIns w' g n n f ∧ w.heap.size ≤ g ∧ Below w.heap.size w w' := by
  rcases hv with rfl | ⟨b, off, rfl, hl, hc⟩
  · exact toInsS_nilO a cap f w
  · exact toInsS_rowO b off n cap f w hn hl hc

set_option maxHeartbeats 1000000 in
theorem toProgram_anyO (a : Option Addr) (n cap : Nat) (f : Nat → Ins) (w : World) (hn : n ≤ 1048576) (hv : SlIns w a n f) :
    Calls Tryz.prog 47 #[.agg #[.slice a n cap]] w fun e w' => ∃ g, e = .returned (.agg #[.slice (some ⟨g, 0, none⟩) n n]) ∧ OwnIns w' g n n f ∧ w.heap.size ≤ g ∧ Below w.heap.size w w' := by
  have HV := hide hv
  clear hv
  go_enter Tryz.func47, Tryz.ntmps47
  go_wp2_with fail
  refine (toInsS_anyO a n cap f _ hn (HV.out.below ((((Below.refl _ _).alloc (Nat.le_refl _) _).alloc (by simp) _).alloc (by simp; omega) _) (Nat.le_refl _))).mono ?_
  rintro e w' ⟨g, rfl, hv', hg, hB⟩
  have HV' := hide hv'
  have HB := hide hB
  obtain ⟨hc, hz⟩ := bcell hB
  clear hv' hB
  simp at hg
  go_wp2
  refine bodyPost_ret (v := .agg #[.slice (some ⟨g, 0, none⟩) n n]) (by simp [results, Tryz.results47, go_sem, hc]) rfl ⟨g, rfl, (HV'.out.setOther _ (by simp; omega) _).setOther _ (by simp; omega) _, by omega, ?_⟩
  exact ((((((Below.refl _ _).alloc (Nat.le_refl _) _).alloc (by simp) _).alloc (by simp; omega) _).trans (HB.out.mono (by simp; omega))).setCell (by simp; omega) _).setCell (by simp) _

end Go.Proofs.YtkikpcklccdihaaGreatDoor.Vp
