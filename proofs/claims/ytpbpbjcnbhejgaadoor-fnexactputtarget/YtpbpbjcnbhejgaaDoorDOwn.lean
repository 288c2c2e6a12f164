/-
  The copies once more, with what they own. Written by tools/own.py.
-/
import Derived.Test.YtpbpbjcnbhejgaaDoorDSpace
import Derived.Test.YtpbpbjcnbhejgaaDoorDMark2
namespace Go.Proofs.YtpbpbjcnbhejgaaDoor.Vp
open Go.RowKit

theorem cells_of_row {w : World} {b n : Nat} {t : TypeId} {F : Nat → Value} (h : w.rowIs b t n F) : Cells w b 0 n F :=
  ⟨h.lt, fun j hj => by rw [Nat.zero_add]; exact ⟨h.cell hj, h.frozen j⟩⟩
theorem OwnIns.lt {w : World} {g n k : Nat} {f : Nat → Ins} (h : OwnIns w g n k f) : g < w.heap.size := by
  obtain ⟨F, hr, _⟩ := h
  exact hr.lt
theorem OwnIns.setOther {w : World} {g n k : Nat} {f : Nat → Ins} (h : OwnIns w g n k f) (p : Addr) (hp : p.block ≠ g) (v : Value) : OwnIns (w.setCell p v) g n k f := by
  obtain ⟨F, hr, hF⟩ := h
  exact ⟨F, hr.setOther (fun e => hp e.symm) v, hF⟩
theorem OwnIns.kept {w w' : World} {g n k : Nat} {f : Nat → Ins} {B : Nat} (h : OwnIns w g n k f) (hb : Below B w w') (hB : w.heap.size ≤ B) : OwnIns w' g n k f := h.below hb (Nat.lt_of_lt_of_le h.lt hB)
theorem OwnIns.cells {w : World} {g n : Nat} {f : Nat → Ins} (h : OwnIns w g n n f) : ∃ F, Cells w g 0 (n * 3) F := by
  obtain ⟨F, hr, _⟩ := h
  exact ⟨F, cells_of_row hr⟩
theorem OwnSource.lt {w : World} {g n k : Nat} {f : Nat → Source} (h : OwnSource w g n k f) : g < w.heap.size := by
  obtain ⟨F, hr, _⟩ := h
  exact hr.lt
theorem OwnSource.setOther {w : World} {g n k : Nat} {f : Nat → Source} (h : OwnSource w g n k f) (p : Addr) (hp : p.block ≠ g) (v : Value) : OwnSource (w.setCell p v) g n k f := by
  obtain ⟨F, hr, hF⟩ := h
  exact ⟨F, hr.setOther (fun e => hp e.symm) v, hF⟩
theorem OwnSource.kept {w w' : World} {g n k : Nat} {f : Nat → Source} {B : Nat} (h : OwnSource w g n k f) (hb : Below B w w') (hB : w.heap.size ≤ B) : OwnSource w' g n k f := h.below hb (Nat.lt_of_lt_of_le h.lt hB)
theorem OwnSource.cells {w : World} {g n : Nat} {f : Nat → Source} (h : OwnSource w g n n f) : ∃ F, Cells w g 0 (n * 2) F := by
  obtain ⟨F, hr, _⟩ := h
  exact ⟨F, cells_of_row hr⟩

set_option maxHeartbeats 1000000 in
theorem toInsS_rowO (b off n cap : Nat) (f : Nat → Ins) (w : World) (hn : n ≤ 1048576) (hb : b < w.heap.size) (hf : ∀ i, i < n → AtIns w b off i (f i)) :
    Calls Tryd.prog 70 #[.slice (some ⟨b, off, none⟩) n cap] w fun e w' => ∃ g, e = .returned (.slice (some ⟨g, 0, none⟩) n n) ∧ OwnIns w' g n n f ∧ w.heap.size ≤ g ∧ Below w.heap.size w w' := by
  have HF := hide hf
  clear hf
  have hmk := mkIns n hn
  go_enter Tryd.func70, Tryd.ntmps70
  go_wp2
  clear hmk
  go_loopw [4] (fun i wr => ∃ k : Nat, k ≤ n ∧ i = .int .i64 k ∧ OwnIns wr w.heap.size n k f ∧ Below w.heap.size w wr) (fun i _ => n - (intOf i).toNat)
  case atStart => exact ⟨0, by omega, rfl, ownIns_start w n f, (Below.refl _ _).alloc (Nat.le_refl _) _⟩
  case round =>
    obtain ⟨k, hk, rfl, hO, hB⟩ := hrel
    have HO := hide hO
    by_cases hlt : k < n
    · obtain ⟨c0, c1, c2⟩ := (HF.out k hlt).below hB hb
      clear hO
      go_wp2_with fail
      refine (toIns_any _ _ _ _).mono ?_
      rintro e w1 ⟨rfl, hB1⟩
      have HO1 : Hid (OwnIns w1 w.heap.size n k f) := HO.out.below hB1 (by obtain ⟨F, hr, _⟩ := HO.out; exact hr.lt)
      obtain ⟨F, hr, _⟩ := HO1.out
      have d0 := hr.cell (i := k * 3) (by omega)
      have z0 := hr.frozen (k * 3)
      have d1 := hr.cell (i := k * 3 + 1) (by omega)
      have z1 := hr.frozen (k * 3 + 1)
      have d2 := hr.cell (i := k * 3 + 2) (by omega)
      have z2 := hr.frozen (k * 3 + 2)
      clear hr c0 c1 c2
      go_wp2
      exact ⟨⟨k + 1, by omega, by go_num, HO1.out.step, (((hB.trans (hB1.mono hB.size)).setCell (Nat.le_refl _) _).setCell (Nat.le_refl _) _).setCell (Nat.le_refl _) _⟩, by simp [intOf]; omega⟩
    · have e : k = n := by omega
      subst e
      clear hO
      go_wp2
      go_ret
      exact ⟨_, rfl, HO.out, Nat.le_refl _, hB⟩

set_option maxHeartbeats 1000000 in
theorem toInsS_nilO (a : Option Addr) (cap : Nat) (f : Nat → Ins) (w : World) :
    Calls Tryd.prog 70 #[.slice a 0 cap] w fun e w' => ∃ g, e = .returned (.slice (some ⟨g, 0, none⟩) 0 0) ∧ OwnIns w' g 0 0 f ∧ w.heap.size ≤ g ∧ Below w.heap.size w w' := by
  have hmk : ∀ w : World, (Instr.makeSlice 55 (.int .i64 0) (.int .i64 0)).run Tryd.prog w = .ok (.slice (some ⟨w.heap.size, 0, none⟩) 0 0) (w.alloc (.cells (zerosIns 0) 114)) := fun w => mkIns 0 (by omega) w
  go_enter Tryd.func70, Tryd.ntmps70
  go_wp2
  clear hmk
  go_loop [4] (fun i => i = .int .i64 0) (fun _ => 0)
  case atStart => rfl
  case round =>
    subst hrel
    go_wp2
    go_ret
    exact ⟨_, rfl, ownIns_start w 0 f, Nat.le_refl _, (Below.refl _ _).alloc (Nat.le_refl _) _⟩

theorem toInsS_anyO (a : Option Addr) (n cap : Nat) (f : Nat → Ins) (w : World) (hn : n ≤ 1048576) (hv : SlIns w a n f) :
    Calls Tryd.prog 70 #[.slice a n cap] w fun e w' => ∃ g, e = .returned (.slice (some ⟨g, 0, none⟩) n n) ∧ OwnIns w' g n n f ∧ w.heap.size ≤ g ∧ Below w.heap.size w w' := by
  rcases hv with rfl | ⟨b, off, rfl, hl, hc⟩
  · exact toInsS_nilO a cap f w
  · exact toInsS_rowO b off n cap f w hn hl hc

set_option maxHeartbeats 1000000 in
theorem toSourceS_rowO (b off n cap : Nat) (f : Nat → Source) (w : World) (hn : n ≤ 1048576) (hb : b < w.heap.size) (hf : ∀ i, i < n → AtSource w b off i (f i)) :
    Calls Tryd.prog 45 #[.slice (some ⟨b, off, none⟩) n cap] w fun e w' => ∃ g, e = .returned (.slice (some ⟨g, 0, none⟩) n n) ∧ OwnSource w' g n n f ∧ w.heap.size ≤ g ∧ Below w.heap.size w w' := by
  have HF := hide hf
  clear hf
  have hmk := mkSource n hn
  go_enter Tryd.func45, Tryd.ntmps45
  go_wp2
  clear hmk
  go_loopw [4] (fun i wr => ∃ k : Nat, k ≤ n ∧ i = .int .i64 k ∧ OwnSource wr w.heap.size n k f ∧ Below w.heap.size w wr) (fun i _ => n - (intOf i).toNat)
  case atStart => exact ⟨0, by omega, rfl, ownSource_start w n f, (Below.refl _ _).alloc (Nat.le_refl _) _⟩
  case round =>
    obtain ⟨k, hk, rfl, hO, hB⟩ := hrel
    have HO := hide hO
    by_cases hlt : k < n
    · obtain ⟨c0, c1⟩ := (HF.out k hlt).below hB hb
      clear hO
      go_wp2_with fail
      refine (toSource_any _ _ _).mono ?_
      rintro e w1 ⟨rfl, hB1⟩
      have HO1 : Hid (OwnSource w1 w.heap.size n k f) := HO.out.below hB1 (by obtain ⟨F, hr, _⟩ := HO.out; exact hr.lt)
      obtain ⟨F, hr, _⟩ := HO1.out
      have d0 := hr.cell (i := k * 2) (by omega)
      have z0 := hr.frozen (k * 2)
      have d1 := hr.cell (i := k * 2 + 1) (by omega)
      have z1 := hr.frozen (k * 2 + 1)
      clear hr c0 c1
      go_wp2
      exact ⟨⟨k + 1, by omega, by go_num, HO1.out.step, ((hB.trans (hB1.mono hB.size)).setCell (Nat.le_refl _) _).setCell (Nat.le_refl _) _⟩, by simp [intOf]; omega⟩
    · have e : k = n := by omega
      subst e
      clear hO
      go_wp2
      go_ret
      exact ⟨_, rfl, HO.out, Nat.le_refl _, hB⟩

set_option maxHeartbeats 1000000 in
theorem toSourceS_nilO (a : Option Addr) (cap : Nat) (f : Nat → Source) (w : World) :
    Calls Tryd.prog 45 #[.slice a 0 cap] w fun e w' => ∃ g, e = .returned (.slice (some ⟨g, 0, none⟩) 0 0) ∧ OwnSource w' g 0 0 f ∧ w.heap.size ≤ g ∧ Below w.heap.size w w' := by
  have hmk : ∀ w : World, (Instr.makeSlice 39 (.int .i64 0) (.int .i64 0)).run Tryd.prog w = .ok (.slice (some ⟨w.heap.size, 0, none⟩) 0 0) (w.alloc (.cells (zerosSource 0) 76)) := fun w => mkSource 0 (by omega) w
  go_enter Tryd.func45, Tryd.ntmps45
  go_wp2
  clear hmk
  go_loop [4] (fun i => i = .int .i64 0) (fun _ => 0)
  case atStart => rfl
  case round =>
    subst hrel
    go_wp2
    go_ret
    exact ⟨_, rfl, ownSource_start w 0 f, Nat.le_refl _, (Below.refl _ _).alloc (Nat.le_refl _) _⟩

theorem toSourceS_anyO (a : Option Addr) (n cap : Nat) (f : Nat → Source) (w : World) (hn : n ≤ 1048576) (hv : SlSource w a n f) :
    Calls Tryd.prog 45 #[.slice a n cap] w fun e w' => ∃ g, e = .returned (.slice (some ⟨g, 0, none⟩) n n) ∧ OwnSource w' g n n f ∧ w.heap.size ≤ g ∧ Below w.heap.size w w' := by
  rcases hv with rfl | ⟨b, off, rfl, hl, hc⟩
  · exact toSourceS_nilO a cap f w
  · exact toSourceS_rowO b off n cap f w hn hl hc

set_option maxHeartbeats 1000000 in
theorem toProgram_anyO (a : Option Addr) (n cap : Nat) (f : Nat → Ins) (w : World) (hn : n ≤ 1048576) (hv : SlIns w a n f) :
    Calls Tryd.prog 26 #[.agg #[.slice a n cap]] w fun e w' => ∃ g, e = .returned (.agg #[.slice (some ⟨g, 0, none⟩) n n]) ∧ OwnIns w' g n n f ∧ w.heap.size ≤ g ∧ Below w.heap.size w w' := by
  have HV := hide hv
  clear hv
  go_enter Tryd.func26, Tryd.ntmps26
  go_wp2_with fail
  refine (toInsS_anyO a n cap f _ hn (HV.out.below ((((Below.refl _ _).alloc (Nat.le_refl _) _).alloc (by simp) _).alloc (by simp; omega) _) (Nat.le_refl _))).mono ?_
  rintro e w' ⟨g, rfl, hv', hg, hB⟩
  have HV' := hide hv'
  have HB := hide hB
  obtain ⟨hc, hz⟩ := bcell hB
  clear hv' hB
  simp at hg
  go_wp2
  refine bodyPost_ret (v := .agg #[.slice (some ⟨g, 0, none⟩) n n]) (by simp [results, Tryd.results26, go_sem, hc]) rfl ⟨g, rfl, (HV'.out.setOther _ (by simp; omega) _).setOther _ (by simp; omega) _, by omega, ?_⟩
  exact ((((((Below.refl _ _).alloc (Nat.le_refl _) _).alloc (by simp) _).alloc (by simp; omega) _).trans (HB.out.mono (by simp; omega))).setCell (by simp; omega) _).setCell (by simp) _

set_option maxHeartbeats 2000000 in
theorem toTarget_anyO (x : Target) (a0 : Option Addr) (cap0 : Nat) (w : World) (hfit : FitsTarget x) (hv0 : SlIns w a0 x.actN x.act) :
    Calls Tryd.prog 85 #[.agg #[.string x.name, .slice a0 x.actN cap0]] w fun e w' => ∃ g0, e = .returned (.agg #[.string x.name, .slice (some ⟨g0, 0, none⟩) x.actN x.actN]) ∧ OwnIns w' g0 x.actN x.actN x.act ∧ w.heap.size ≤ g0 ∧ Below w.heap.size w w' := by
  have V0 := hide hv0
  clear hv0
  have hfit := hide hfit
  have A0 : Hid (Below w.heap.size w (((w.alloc (.cells #[.string x.name, .slice a0 x.actN cap0] 111)).alloc (.cells #[.string ⟨#[]⟩, .slice none 0 0] 78)).alloc (.cells #[.string x.name, .slice none 0 0] 78))) := (((Below.refl _ _).alloc (Nat.le_refl _) _).alloc (by simp) _).alloc (by first | (simp; omega) | simp) _
  go_enter Tryd.func85, Tryd.ntmps85
  go_wp2_with fail
  refine (toProgram_anyO a0 x.actN cap0 x.act _ hfit.out (V0.out.below A0.out (Nat.le_refl _))).mono ?_
  rintro e w1 ⟨g0, rfl, hR0, hg0, hB1⟩
  have R0 := hide hR0
  obtain ⟨hc1, hz1⟩ := bcell hB1
  have B1 := hide (A0.out.trans (hB1.mono A0.out.size))
  have hs1 : w.heap.size + 1 + 1 < w1.heap.size := by have := hB1.size; simp at this; omega
  have hu1 : w.heap.size + 1 < w1.heap.size := by omega
  have ht1 : w.heap.size < w1.heap.size := by omega
  have D1 := hide hB1
  clear hR0 hB1
  simp at hg0
  have q0 : w1.cell? ⟨w.heap.size + 1, 0, none⟩ = some (.string ⟨#[]⟩) := by
    rw [D1.out.cell (p := ⟨w.heap.size + 1, 0, none⟩) (by first | (simp; omega) | simp)]
    simp [go_sem]
  have q1 : w1.cell? ⟨w.heap.size + 1, 1, none⟩ = some (.slice none 0 0) := by
    rw [D1.out.cell (p := ⟨w.heap.size + 1, 1, none⟩) (by first | (simp; omega) | simp)]
    simp [go_sem]
  go_wp2
  exact bodyPost_ret (v := .agg #[.string x.name, .slice (some ⟨g0, 0, none⟩) x.actN x.actN]) (by simp [results, Tryd.results85, go_sem, q0, q1]) rfl ⟨g0, rfl, (((R0.out).setOther _ (by first | (simp; omega) | simp) _).setOther _ (by first | (simp; omega) | simp) _).setOther _ (by first | (simp; omega) | simp) _, by omega, (((B1.out).setCell (by first | (simp; omega) | simp) _).setCell (by first | (simp; omega) | simp) _).setCell (by first | (simp; omega) | simp) _⟩

/-- A row of targets, each with a row of its own; the rows lie in ascending blocks behind it, all below N. -/
def OwnTarget2 (w : World) (g n k N : Nat) (f : Nat → Target) : Prop :=
  ∃ (F : Nat → Value) (G0 : Nat → Nat), w.rowIs g 78 (n * 2) F ∧ (∀ i j, i < j → j < k → G0 i < G0 j) ∧ (∀ i, i < k → G0 i < N) ∧ ∀ i, i < k → F (i * 2) = .string (f i).name ∧ (F (i * 2 + 1) = .slice (some ⟨G0 i, 0, none⟩) (f i).actN (f i).actN ∧ OwnIns w (G0 i) (f i).actN (f i).actN (f i).act ∧ g < G0 i)
theorem OwnTarget2.lt {w : World} {g n k N : Nat} {f : Nat → Target} (h : OwnTarget2 w g n k N f) : g < w.heap.size := by
  obtain ⟨F, G0, hr, _⟩ := h
  exact hr.lt
theorem ownTarget2_start (w : World) (n N : Nat) (f : Nat → Target) : OwnTarget2 (w.alloc (.cells (zerosTarget n) 78)) w.heap.size n 0 N f := by
  have hz : (zerosTarget n).size = n * 2 := size_madeCells _ _
  have h := World.rowIs_alloc w (zerosTarget n) 78 (fun i => (zerosTarget n)[i]?.getD undef) (fun i hi => by rw [Array.getElem?_eq_getElem hi]; rfl)
  rw [hz] at h
  exact ⟨_, fun _ => 0, h, fun i j _ hj => absurd hj (Nat.not_lt_zero _), fun i hi => absurd hi (Nat.not_lt_zero _), fun i hi => absurd hi (Nat.not_lt_zero _)⟩
theorem OwnTarget2.below {w w' : World} {g n k N : Nat} {f : Nat → Target} {B : Nat} (h : OwnTarget2 w g n k N f) (hb : Below B w w') (hB : w.heap.size ≤ B) : OwnTarget2 w' g n k N f := by
  have hl := h.lt
  obtain ⟨F, G0, hr, ha, hN, hF⟩ := h
  refine ⟨F, G0, hr.of_block (hb.block g (Nat.lt_of_lt_of_le hl hB)), ha, hN, fun i hi => ?_⟩
  obtain ⟨p0, ⟨s0, r0, u0⟩⟩ := hF i hi
  exact ⟨p0, ⟨s0, r0.kept hb hB, u0⟩⟩
theorem OwnTarget2.setOther {w : World} {g n k N : Nat} {f : Nat → Target} (h : OwnTarget2 w g n k N f) (p : Addr) (hp : p.block < g) (v : Value) : OwnTarget2 (w.setCell p v) g n k N f := by
  obtain ⟨F, G0, hr, ha, hN, hF⟩ := h
  refine ⟨F, G0, hr.setOther (by omega) v, ha, hN, fun i hi => ?_⟩
  obtain ⟨p0, ⟨s0, r0, u0⟩⟩ := hF i hi
  exact ⟨p0, ⟨s0, r0.setOther p (by omega) v, u0⟩⟩
theorem OwnTarget2.old {w : World} {g n k N : Nat} {f : Nat → Target} (h : OwnTarget2 w g n k N f) : OwnTarget w g n k f := by
  obtain ⟨F, G0, hr, ha, hN, hF⟩ := h
  refine ⟨F, G0, hr, fun i hi => ?_⟩
  obtain ⟨p0, ⟨s0, r0, u0⟩⟩ := hF i hi
  exact ⟨p0, ⟨s0, r0.row, u0⟩⟩
theorem OwnTarget2.row {w : World} {g n N : Nat} {f : Nat → Target} (h : OwnTarget2 w g n n N f) : RowTarget w g 0 n f := h.old.row
theorem OwnTarget2.step {w : World} {g n k g0 N : Nat} {f : Nat → Target} (h : OwnTarget2 w g n k N f) (R0 : OwnIns w g0 (f k).actN (f k).actN (f k).act) (hg0 : g < g0) (hN0 : N ≤ g0) :
    OwnTarget2 ((w.setCell ⟨g, k * 2, none⟩ (.string (f k).name)).setCell ⟨g, k * 2 + 1, none⟩ (.slice (some ⟨g0, 0, none⟩) (f k).actN (f k).actN)) g n (k + 1) (g0 + 1) f := by
  obtain ⟨F, G0, hr, ha, hN, hF⟩ := h
  refine ⟨_, fun i => if i = k then g0 else G0 i, ((hr.set _ _).set _ _), fun i j hij hj => ?_, fun i hi => ?_, fun i hi => ?_⟩
  · dsimp only
    rw [if_neg (show ¬ i = k by omega)]
    by_cases e : j = k
    · rw [if_pos e]
      have := hN i (by omega)
      omega
    · rw [if_neg e]
      exact ha i j hij (by omega)
  · dsimp only
    by_cases e : i = k
    · rw [if_pos e]
      omega
    · rw [if_neg e]
      have := hN i (by omega)
      omega
  · by_cases e : i = k
    · subst e
      exact ⟨by simp, ⟨by simp, by dsimp only; rw [if_pos rfl]; exact ((R0).setOther _ (by first | (simp; omega) | simp) _).setOther _ (by first | (simp; omega) | simp) _, by dsimp only; rw [if_pos rfl]; exact hg0⟩⟩
    · obtain ⟨p0, ⟨s0, r0, u0⟩⟩ := hF i (by omega)
      refine ⟨?_, ?_⟩
      · show (if _ then _ else if _ then _ else _) = _
        rw [if_neg (by omega), if_neg (by omega), p0]
      · dsimp only
        rw [if_neg e]
        refine ⟨?_, ((r0).setOther _ (by first | (simp; omega) | simp) _).setOther _ (by first | (simp; omega) | simp) _, u0⟩
        show (if _ then _ else if _ then _ else _) = _
        rw [if_neg (by omega), if_neg (by omega), s0]

theorem own2_up {w : World} {g n k N : Nat} {f : Nat → Target} (h : OwnTarget2 w g n k N f) (hN : N ≤ w.heap.size) : OwnTarget2 w g n k w.heap.size f := by
  obtain ⟨F, G0, hr, ha, hb, hF⟩ := h
  exact ⟨F, G0, hr, ha, fun i hi => Nat.lt_of_lt_of_le (hb i hi) hN, hF⟩

set_option maxHeartbeats 2000000 in
theorem toTargetS_rowO (b off n cap : Nat) (f : Nat → Target) (w : World) (hn : n ≤ 1048576) (hf : RowTarget w b off n f) (hm : ∀ i, i < n → FitsTarget (f i)) :
    Calls Tryd.prog 46 #[.slice (some ⟨b, off, none⟩) n cap] w fun e w' => ∃ g, e = .returned (.slice (some ⟨g, 0, none⟩) n n) ∧ OwnTarget2 w' g n n w'.heap.size f ∧ w.heap.size ≤ g ∧ Below w.heap.size w w' := by
  have HF := hide hf
  have HM := hide hm
  clear hf hm
  have hmk := mkTarget n hn
  go_enter Tryd.func46, Tryd.ntmps46
  go_wp2
  clear hmk
  go_loopw [4] (fun i wr => ∃ k : Nat, k ≤ n ∧ i = .int .i64 k ∧ OwnTarget2 wr w.heap.size n k wr.heap.size f ∧ Below w.heap.size w wr) (fun i _ => n - (intOf i).toNat)
  case atStart => exact ⟨0, by omega, rfl, ownTarget2_start w n _ f, (Below.refl _ _).alloc (Nat.le_refl _) _⟩
  case round =>
    obtain ⟨k, hk, rfl, hO, hB⟩ := hrel
    have HO := hide hO
    have HB := hide hB
    have hsz : w.heap.size ≤ wr.heap.size := hB.size
    have hlo : w.heap.size < wr.heap.size := hO.lt
    clear hB
    by_cases hlt : k < n
    · obtain ⟨p0, ⟨a0, cap0, s0, r0⟩⟩ := (HF.out.2 k hlt).below HB.out (Nat.le_refl _) HF.out.1
      have HR := hide (show SlIns wr a0 (f k).actN (f k).act from r0)
      clear hO r0
      go_wp2_with fail
      refine (toTarget_anyO (f k) a0 cap0 _ (HM.out k hlt) HR.out).mono ?_
      rintro e w1 ⟨g0, rfl, hR0, hg0, hB1⟩
      have HO1 := hide (HO.out.below hB1 (Nat.le_refl _))
      have R0 := hide hR0
      have HB1 := hide (HB.out.trans (hB1.mono hsz))
      clear hB1 hR0
      have hl1 := R0.out.lt
      have ST := hide (own2_up (HO1.out.step R0.out (by omega) hg0) (by simp; omega))
      obtain ⟨F, G0, hr, _⟩ := HO1.out
      have d0 := hr.cell (i := k * 2) (by omega)
      have z0 := hr.frozen (k * 2)
      have d1 := hr.cell (i := k * 2 + 1) (by omega)
      have z1 := hr.frozen (k * 2 + 1)
      clear hr p0 s0
      go_wp2
      exact ⟨⟨k + 1, by omega, by go_num, ST.out, ((HB1.out).setCell (Nat.le_refl _) _).setCell (Nat.le_refl _) _⟩, by simp [intOf]; omega⟩
    · have e : k = n := by omega
      subst e
      clear hO
      go_wp2
      go_ret
      exact ⟨_, rfl, HO.out, Nat.le_refl _, HB.out⟩

set_option maxHeartbeats 1000000 in
theorem toTargetS_nilO (a : Option Addr) (cap : Nat) (f : Nat → Target) (w : World) :
    Calls Tryd.prog 46 #[.slice a 0 cap] w fun e w' => ∃ g, e = .returned (.slice (some ⟨g, 0, none⟩) 0 0) ∧ OwnTarget2 w' g 0 0 w'.heap.size f ∧ w.heap.size ≤ g ∧ Below w.heap.size w w' := by
  have hmk : ∀ w : World, (Instr.makeSlice 40 (.int .i64 0) (.int .i64 0)).run Tryd.prog w = .ok (.slice (some ⟨w.heap.size, 0, none⟩) 0 0) (w.alloc (.cells (zerosTarget 0) 78)) := fun w => mkTarget 0 (by omega) w
  go_enter Tryd.func46, Tryd.ntmps46
  go_wp2
  clear hmk
  go_loop [4] (fun i => i = .int .i64 0) (fun _ => 0)
  case atStart => rfl
  case round =>
    subst hrel
    go_wp2
    go_ret
    exact ⟨_, rfl, ownTarget2_start w 0 _ f, Nat.le_refl _, (Below.refl _ _).alloc (Nat.le_refl _) _⟩

theorem toTargetS_anyO (a : Option Addr) (n cap : Nat) (f : Nat → Target) (w : World) (hn : n ≤ 1048576) (hv : SlTarget w a n f) (hm : ∀ i, i < n → FitsTarget (f i)) :
    Calls Tryd.prog 46 #[.slice a n cap] w fun e w' => ∃ g, e = .returned (.slice (some ⟨g, 0, none⟩) n n) ∧ OwnTarget2 w' g n n w'.heap.size f ∧ w.heap.size ≤ g ∧ Below w.heap.size w w' := by
  rcases hv with rfl | ⟨b, off, rfl, hr⟩
  · exact toTargetS_nilO a cap f w
  · exact toTargetS_rowO b off n cap f w hn hr hm

set_option maxHeartbeats 1000000 in
theorem toSpace_anyO (a0 : Option Addr) (n0 c0 : Nat) (f0 : Nat → Source) (a1 : Option Addr) (n1 c1 : Nat) (f1 : Nat → Target) (w : World) (hn0 : n0 ≤ 1048576) (hn1 : n1 ≤ 1048576) (hv0 : SlSource w a0 n0 f0) (hv1 : SlTarget w a1 n1 f1) (hm : ∀ i, i < n1 → FitsTarget (f1 i)) :
    Calls Tryd.prog 17 #[.agg #[.slice a0 n0 c0, .slice a1 n1 c1]] w fun e w' => ∃ g0 g1, e = .returned (.agg #[.slice (some ⟨g0, 0, none⟩) n0 n0, .slice (some ⟨g1, 0, none⟩) n1 n1]) ∧ OwnSource w' g0 n0 n0 f0 ∧ w.heap.size ≤ g0 ∧ OwnTarget2 w' g1 n1 n1 w'.heap.size f1 ∧ g0 < g1 ∧ Below w.heap.size w w' := by
  have HV0 := hide hv0
  have HV1 := hide hv1
  have HM := hide hm
  clear hv0 hv1 hm
  have A0 := hide ((((Below.refl w.heap.size w).alloc (Nat.le_refl _) (.cells #[.slice a0 n0 c0, .slice a1 n1 c1] 36)).alloc (by simp) (.cells #[.slice none 0 0, .slice none 0 0] 42)).alloc (by first | (simp; omega) | simp) (.cells #[.slice none 0 0, .slice none 0 0] 42))
  go_enter Tryd.func17, Tryd.ntmps17
  go_wp2_with fail
  refine (toSourceS_anyO a0 n0 c0 f0 _ hn0 (HV0.out.below A0.out (Nat.le_refl _))).mono ?_
  rintro e w1 ⟨g0, rfl, hR0, hg0, hB1⟩
  have R0 := hide hR0
  obtain ⟨hc1, hz1⟩ := bcell hB1
  have B1 := hide (A0.out.trans (hB1.mono A0.out.size))
  have hs1 : w.heap.size + 1 + 1 < w1.heap.size := by have := hB1.size; simp at this; omega
  have hu1 : w.heap.size + 1 < w1.heap.size := by omega
  have ht1 : w.heap.size < w1.heap.size := by omega
  have D1 := hide hB1
  clear hR0 hB1
  simp at hg0
  have hgl : g0 < w1.heap.size := R0.out.lt
  go_wp2_with fail
  have A1 := hide (B1.out.setCell (p := ⟨w.heap.size + 1 + 1, 0, none⟩) (by first | (simp; omega) | simp) (.slice (some ⟨g0, 0, none⟩) n0 n0))
  refine (toTargetS_anyO a1 n1 c1 f1 _ hn1 (HV1.out.below A1.out (Nat.le_refl _)) HM.out).mono ?_
  rintro e w2 ⟨g1, rfl, hR1, hg1, hB2⟩
  have R1 := hide hR1
  obtain ⟨hc2, hz2⟩ := bcell hB2
  have B2 := hide (A1.out.trans (hB2.mono A1.out.size))
  have hs2 : w.heap.size + 1 + 1 < w2.heap.size := by have := hB2.size; simp at this; omega
  have hu2 : w.heap.size + 1 < w2.heap.size := by omega
  have ht2 : w.heap.size < w2.heap.size := by omega
  have D2 := hide hB2
  clear hR1 hB2
  simp at hg1
  have q0 : w2.cell? ⟨w.heap.size + 1, 0, none⟩ = some (.slice none 0 0) := by
    rw [D2.out.cell (p := ⟨w.heap.size + 1, 0, none⟩) (by first | (simp; omega) | simp), cell_far _ _ _ _ (by simp)]
    rw [D1.out.cell (p := ⟨w.heap.size + 1, 0, none⟩) (by first | (simp; omega) | simp)]
    simp [go_sem]
  have q1 : w2.cell? ⟨w.heap.size + 1, 1, none⟩ = some (.slice none 0 0) := by
    rw [D2.out.cell (p := ⟨w.heap.size + 1, 1, none⟩) (by first | (simp; omega) | simp), cell_far _ _ _ _ (by simp)]
    rw [D1.out.cell (p := ⟨w.heap.size + 1, 1, none⟩) (by first | (simp; omega) | simp)]
    simp [go_sem]
  go_wp2
  refine bodyPost_ret (v := .agg #[.slice (some ⟨g0, 0, none⟩) n0 n0, .slice (some ⟨g1, 0, none⟩) n1 n1]) (by simp [results, Tryd.results17, go_sem, q0, q1]) rfl ⟨g0, g1, rfl, ?_, by omega, ?_, by omega, ?_⟩
  · exact ((((R0.out.setOther _ (by first | (simp; omega) | simp) _).kept D2.out (Nat.le_refl _)).setOther _ (by first | (simp; omega) | simp) _).setOther _ (by first | (simp; omega) | simp) _).setOther _ (by first | (simp; omega) | simp) _
  · exact own2_up (((R1.out.setOther _ (by first | (simp; omega) | simp) _).setOther _ (by first | (simp; omega) | simp) _).setOther _ (by first | (simp; omega) | simp) _) (by simp)
  · exact ((B2.out.setCell (by first | (simp; omega) | simp) _).setCell (by first | (simp; omega) | simp) _).setCell (by first | (simp; omega) | simp) _

end Go.Proofs.YtpbpbjcnbhejgaaDoor.Vp
