/-
  Data: Target: sizes, copies, comparisons; its cells hold slices. Written by tools/nest.py.
-/
import Derived.Test.YtolpgafkojlkoaaDoorDIns
import Derived.Test.YtolpgafkojlkoaaDoorDProgram
namespace Go.Proofs.YtolpgafkojlkoaaDoor.Vp
open Go.RowKit

structure Target where
  name : ByteArray
  actN : Nat
  act : Nat → Ins
/-- What each reading gives: no text is too long for an int, no slice. -/
def SizedTarget (x : Target) : Prop := x.name.size ≤ maxLen ∧ ((x.actN : Int) ≤ 9223372036854775807 ∧ ∀ j, j < x.actN → (x.act j).s.size ≤ maxLen)
/-- No slice is longer than what the law lets in. -/
def FitsTarget (x : Target) : Prop := x.actN ≤ 1048576

/-- The cells of element i of a row that begins at off in block b. -/
def AtTarget (w : World) (b off i : Nat) (x : Target) : Prop :=
  w.cell? ⟨b, off + i * 2, none⟩ = some (.string x.name) ∧ (∃ a cap, w.cell? ⟨b, off + i * 2 + 1, none⟩ = some (.slice a x.actN cap) ∧ SlIns w a x.actN x.act)
theorem AtTarget.below {w w' : World} {B b off i : Nat} {x : Target} (h : AtTarget w b off i x) (hb : Below B w w') (hB : w.heap.size ≤ B) (hl : b < w.heap.size) : AtTarget w' b off i x := by
  obtain ⟨p0, ⟨a0, cap0, s0, r0⟩⟩ := h
  refine ⟨(hb.cell (p := ⟨b, _, none⟩) (Nat.lt_of_lt_of_le hl hB)).trans p0, ⟨a0, cap0, (hb.cell (p := ⟨b, _, none⟩) (Nat.lt_of_lt_of_le hl hB)).trans s0, r0.below hb hB⟩⟩
def RowTarget (w : World) (b off n : Nat) (f : Nat → Target) : Prop := b < w.heap.size ∧ ∀ i, i < n → AtTarget w b off i (f i)
theorem RowTarget.below {w w' : World} {B b off n : Nat} {f : Nat → Target} (h : RowTarget w b off n f) (hb : Below B w w') (hB : w.heap.size ≤ B) : RowTarget w' b off n f :=
  ⟨Nat.lt_of_lt_of_le h.1 hb.size, fun i hi => (h.2 i hi).below hb hB h.1⟩
def SlTarget (w : World) (a : Option Addr) (n : Nat) (f : Nat → Target) : Prop := n = 0 ∨ ∃ b off, a = some ⟨b, off, none⟩ ∧ RowTarget w b off n f
theorem SlTarget.below {w w' : World} {B : Nat} {a : Option Addr} {n : Nat} {f : Nat → Target} (h : SlTarget w a n f) (hb : Below B w w') (hB : w.heap.size ≤ B) : SlTarget w' a n f := by
  rcases h with h | ⟨b, off, hv, hr⟩
  · exact .inl h
  · exact .inr ⟨b, off, hv, hr.below hb hB⟩
theorem RowTarget.sl {w : World} {b off n : Nat} {f : Nat → Target} (h : RowTarget w b off n f) : SlTarget w (some ⟨b, off, none⟩) n f := .inr ⟨b, off, rfl, h⟩

set_option maxHeartbeats 1000000 in
theorem szTarget_any (x : Target) (a0 : Option Addr) (cap0 : Nat) (left : Int) (w : World) (hz : SizedTarget x) (hv0 : SlIns w a0 x.actN x.act) (l0 : 0 ≤ left) (l1 : left ≤ 1048576) :
    Calls Tryd.prog 71 #[.agg #[.string x.name, .slice a0 x.actN cap0], .int .i64 left] w fun e w' => ∃ r : Int, e = .returned (.int .i64 r) ∧ -1 ≤ r ∧ r ≤ left ∧ (0 ≤ r → FitsTarget x) ∧ Below w.heap.size w w' := by
  have V0 := hide hv0
  clear hv0
  have zname := hz.1
  unfold maxLen at zname
  have Sz := hide hz
  clear hz
  have B0 := hide ((Below.refl w.heap.size w).alloc (Nat.le_refl _) (.cells #[.string x.name, .slice a0 x.actN cap0] 112))
  go_enter Tryd.func71, Tryd.ntmps71
  go_wp2_with (first | (go_at_call 23; refine (szProgram_any a0 x.actN cap0 x.act _ _ ?_ ?_ (Sz.2).1 ?_ (Sz.2).2).mono ?_; omega; omega; exact V0.below B0 (Nat.le_refl _); rintro e w1 ⟨r0, rfl, l0, m0, n0, hB0⟩; have B1 := hide (B0.trans (hB0.mono B0.size)); have bc0 := (bcell hB0).1; clear hB0))
  all_goals go_ret
  all_goals first
    | exact ⟨-1, rfl, by omega, by omega, fun _ => by omega, by first | exact B1 | exact B0⟩
    | exact ⟨_, rfl, by omega, by omega, fun _ => (show (_ : Nat) ≤ 1048576 from by have := n0 (by omega); omega), B1⟩

set_option maxHeartbeats 400000 in
theorem szTargetS_big (a : Option Addr) (n cap : Nat) (left : Int) (w : World) (h0 : 0 ≤ left) (h1 : left ≤ 1048576) (hn : (n : Int) ≤ 9223372036854775807) (h : left < (n : Int)) :
    Calls Tryd.prog 42 #[.slice a n cap, .int .i64 left] w fun e w' => e = .returned (.int .i64 (-1)) ∧ w' = w := by
  go_enter Tryd.func42, Tryd.ntmps42
  go_wp2
  go_ret
  exact ⟨rfl, rfl⟩

set_option maxHeartbeats 1000000 in
theorem szTargetS_row (b off n cap : Nat) (f : Nat → Target) (left : Int) (w : World) (h0 : (n : Int) ≤ left) (h1 : left ≤ 1048576) (hf : RowTarget w b off n f) (hs : ∀ i, i < n → SizedTarget (f i)) :
    Calls Tryd.prog 42 #[.slice (some ⟨b, off, none⟩) n cap, .int .i64 left] w fun e w' => ∃ r : Int, e = .returned (.int .i64 r) ∧ -1 ≤ r ∧ r ≤ left ∧ (0 ≤ r → ∀ i, i < n → FitsTarget (f i)) ∧ Below w.heap.size w w' := by
  have HF := hide hf
  have HS := hide hs
  clear hf hs
  go_enter Tryd.func42, Tryd.ntmps42
  go_wp2
  go_loopw [1, 5] (fun l i wr => ∃ k : Nat, ∃ r : Int, k ≤ n ∧ 0 ≤ r ∧ r ≤ left ∧ i = .int .i64 k ∧ l = .int .i64 r ∧ Hid (∀ i, i < k → FitsTarget (f i)) ∧ Below w.heap.size w wr) (fun _ i _ => n - (intOf i).toNat)
  case atStart => exact ⟨0, left - n, by omega, by omega, by omega, rfl, rfl, fun i hi => absurd hi (Nat.not_lt_zero _), Below.refl _ _⟩
  case round =>
    obtain ⟨k, r, hk, hr0, hr1, rfl, rfl, hfit, hB⟩ := hrel
    have HB := hide hB
    have hsz : w.heap.size ≤ wr.heap.size := hB.size
    clear hB
    by_cases hlt : k < n
    · obtain ⟨p0, ⟨a0, cap0, s0, r0⟩⟩ := (HF.2 k hlt).below HB (Nat.le_refl _) HF.1
      have HR := hide (show SlIns wr a0 (f k).actN (f k).act from r0)
      clear r0
      go_wp2_with fail
      refine (szTarget_any (f k) a0 cap0 _ _ (HS k hlt) HR (by omega) (by omega)).mono ?_
      rintro e w' ⟨r', rfl, hr2, hr3, hr4, hB'⟩
      have HR4 := hide hr4
      have HB' := hide (HB.trans (hB'.mono hsz))
      clear hr4 hB'
      go_wp2
      · go_ret
        exact ⟨-1, rfl, by omega, by omega, fun _ => by omega, HB'⟩
      · exact ⟨⟨k + 1, r', by omega, by omega, by omega, by go_num, rfl, fun i hi => by
          by_cases e : i = k
          · subst e; exact HR4 (by omega)
          · exact hfit i (by omega), HB'⟩, by simp [intOf]; omega⟩
    · have e : k = n := by omega
      subst e
      go_wp2
      go_ret
      exact ⟨r, rfl, by omega, by omega, fun _ => hfit, HB⟩

set_option maxHeartbeats 400000 in
theorem szTargetS_nil (a : Option Addr) (cap : Nat) (left : Int) (w : World) (h0 : 0 ≤ left) (h1 : left ≤ 1048576) :
    Calls Tryd.prog 42 #[.slice a 0 cap, .int .i64 left] w fun e w' => e = .returned (.int .i64 left) ∧ w' = w := by
  go_enter Tryd.func42, Tryd.ntmps42
  go_wp2
  go_loop [1, 5] (fun l i => l = .int .i64 left ∧ i = .int .i64 0) (fun _ _ => 0)
  case atStart => exact ⟨by simp, rfl⟩
  case round =>
    obtain ⟨rfl, rfl⟩ := hrel
    go_wp2
    go_ret
    exact ⟨rfl, rfl⟩

theorem szTargetS_any (a : Option Addr) (n cap : Nat) (f : Nat → Target) (left : Int) (w : World) (h0 : 0 ≤ left) (h1 : left ≤ 1048576) (hn : (n : Int) ≤ 9223372036854775807) (hv : SlTarget w a n f) (hs : ∀ i, i < n → SizedTarget (f i)) :
    Calls Tryd.prog 42 #[.slice a n cap, .int .i64 left] w fun e w' => ∃ r : Int, e = .returned (.int .i64 r) ∧ -1 ≤ r ∧ r ≤ left ∧ (0 ≤ r → (n : Int) ≤ left ∧ ∀ i, i < n → FitsTarget (f i)) ∧ Below w.heap.size w w' := by
  rcases hv with rfl | ⟨b, off, rfl, hr⟩
  · exact (szTargetS_nil a cap left w h0 h1).mono fun e w' ⟨a, b⟩ => ⟨_, a, by omega, by omega, fun _ => ⟨by omega, fun i hi => absurd hi (Nat.not_lt_zero _)⟩, by rw [b]; exact Below.refl _ _⟩
  · by_cases h : (n : Int) ≤ left
    · exact (szTargetS_row b off n cap f left w h h1 hr hs).mono fun e w' ⟨r, a, b, c, d, e⟩ => ⟨r, a, b, c, fun g => ⟨h, d g⟩, e⟩
    · exact (szTargetS_big _ n cap left w h0 h1 hn (by omega)).mono fun e w' ⟨a, b⟩ => ⟨_, a, by omega, by omega, fun _ => by omega, by rw [b]; exact Below.refl _ _⟩

set_option maxHeartbeats 2000000 in
theorem toTarget_any (x : Target) (a0 : Option Addr) (cap0 : Nat) (w : World) (hfit : FitsTarget x) (hv0 : SlIns w a0 x.actN x.act) :
    Calls Tryd.prog 73 #[.agg #[.string x.name, .slice a0 x.actN cap0]] w fun e w' => ∃ g0, e = .returned (.agg #[.string x.name, .slice (some ⟨g0, 0, none⟩) x.actN x.actN]) ∧ RowIns w' g0 0 x.actN x.act ∧ w.heap.size ≤ g0 ∧ Below w.heap.size w w' := by
  have V0 := hide hv0
  clear hv0
  have hfit := hide hfit
  have A0 : Hid (Below w.heap.size w (((w.alloc (.cells #[.string x.name, .slice a0 x.actN cap0] 112)).alloc (.cells #[.string ⟨#[]⟩, .slice none 0 0] 78)).alloc (.cells #[.string x.name, .slice none 0 0] 78))) := (((Below.refl _ _).alloc (Nat.le_refl _) _).alloc (by simp) _).alloc (by first | (simp; omega) | simp) _
  go_enter Tryd.func73, Tryd.ntmps73
  go_wp2_with fail
  refine (toProgram_any a0 x.actN cap0 x.act _ hfit (V0.below A0 (Nat.le_refl _))).mono ?_
  rintro e w1 ⟨g0, rfl, hR0, hg0, hB1⟩
  have R0 := hide hR0
  obtain ⟨hc1, hz1⟩ := bcell hB1
  have B1 := hide (A0.trans (hB1.mono A0.size))
  have hs1 : w.heap.size + 1 + 1 < w1.heap.size := by have := hB1.size; simp at this; omega
  have hu1 : w.heap.size + 1 < w1.heap.size := by omega
  have ht1 : w.heap.size < w1.heap.size := by omega
  have D1 := hide hB1
  clear hR0 hB1
  simp at hg0
  have q0 : w1.cell? ⟨w.heap.size + 1, 0, none⟩ = some (.string ⟨#[]⟩) := by
    rw [D1.cell (p := ⟨w.heap.size + 1, 0, none⟩) (by first | (simp; omega) | simp)]
    simp [go_sem]
  have q1 : w1.cell? ⟨w.heap.size + 1, 1, none⟩ = some (.slice none 0 0) := by
    rw [D1.cell (p := ⟨w.heap.size + 1, 1, none⟩) (by first | (simp; omega) | simp)]
    simp [go_sem]
  go_wp2
  exact bodyPost_ret (v := .agg #[.string x.name, .slice (some ⟨g0, 0, none⟩) x.actN x.actN]) (by simp [results, Tryd.results73, go_sem, q0, q1]) rfl ⟨g0, rfl, (((R0).setOther _ (by first | (simp; omega) | simp) _).setOther _ (by first | (simp; omega) | simp) _).setOther _ (by first | (simp; omega) | simp) _, by omega, (((B1).setCell (by first | (simp; omega) | simp) _).setCell (by first | (simp; omega) | simp) _).setCell (by first | (simp; omega) | simp) _⟩

theorem infoTarget : (Tryd.prog.info? 78).map (fun i => (i.zero, i.size, i.bytes)) = some (some (.agg #[.string ⟨#[]⟩, .slice none 0 0]), 2, 40) := by kernel_rfl
def zerosTarget (n : Nat) : Array Value := madeCells (Value.agg #[.string ⟨#[]⟩, .slice none 0 0]).cells (n * 2)
theorem mkTarget (n : Nat) (hn : n ≤ 1048576) (w : World) : (Instr.makeSlice 44 (.int .i64 (n : Int)) (.int .i64 (n : Int))).run Tryd.prog w = .ok (.slice (some ⟨w.heap.size, 0, none⟩) n n) (w.alloc (.cells (zerosTarget n) 78)) := by
  obtain ⟨i, hi, hz⟩ := Option.map_eq_some_iff.1 infoTarget
  simp only [Prod.mk.injEq] at hz
  obtain ⟨h1, h2, h3⟩ := hz
  have h := run_make (P := Tryd.prog) w 44 78 i _ Tryd.underlying44 hi h1 .i64 .i64 n n (by omega) (Int.le_refl _) (by rw [h3]; omega) (by omega)
  rw [h2] at h
  simpa [zerosTarget] using h

/-- Block g is a row of n elements' cells; the first k are those of f, their slices rows of blocks behind g. -/
def OwnTarget (w : World) (g n k : Nat) (f : Nat → Target) : Prop :=
  ∃ (F : Nat → Value) (G0 : Nat → Nat), w.rowIs g 78 (n * 2) F ∧ ∀ i, i < k → F (i * 2) = .string (f i).name ∧ (F (i * 2 + 1) = .slice (some ⟨G0 i, 0, none⟩) (f i).actN (f i).actN ∧ RowIns w (G0 i) 0 (f i).actN (f i).act ∧ g < G0 i)
theorem OwnTarget.lt {w : World} {g n k : Nat} {f : Nat → Target} (h : OwnTarget w g n k f) : g < w.heap.size := by
  obtain ⟨F, G0, hr, _⟩ := h
  exact hr.lt
theorem ownTarget_start (w : World) (n : Nat) (f : Nat → Target) : OwnTarget (w.alloc (.cells (zerosTarget n) 78)) w.heap.size n 0 f := by
  have hz : (zerosTarget n).size = n * 2 := size_madeCells _ _
  have h := World.rowIs_alloc w (zerosTarget n) 78 (fun i => (zerosTarget n)[i]?.getD undef) (fun i hi => by rw [Array.getElem?_eq_getElem hi]; rfl)
  rw [hz] at h
  exact ⟨_, fun _ => 0, h, fun i hi => absurd hi (Nat.not_lt_zero _)⟩
theorem OwnTarget.step {w : World} {g n k g0 : Nat} {f : Nat → Target} (h : OwnTarget w g n k f) (R0 : RowIns w g0 0 (f k).actN (f k).act) (hg0 : g < g0) :
    OwnTarget ((w.setCell ⟨g, k * 2, none⟩ (.string (f k).name)).setCell ⟨g, k * 2 + 1, none⟩ (.slice (some ⟨g0, 0, none⟩) (f k).actN (f k).actN)) g n (k + 1) f := by
  obtain ⟨F, G0, hr, hF⟩ := h
  refine ⟨_, fun i => if i = k then g0 else G0 i, ((hr.set _ _).set _ _), fun i hi => ?_⟩
  by_cases e : i = k
  · subst e
    exact ⟨by simp, ⟨by simp, by dsimp only; rw [if_pos rfl]; exact ((R0).setOther _ (by first | (simp; omega) | simp) _).setOther _ (by first | (simp; omega) | simp) _, by dsimp only; rw [if_pos rfl]; exact hg0⟩⟩
  · obtain ⟨p0, ⟨s0, r0, u0⟩⟩ := hF i (by omega)
    refine ⟨?_, ?_⟩
    · show (if _ then _ else if _ then _ else _) = _
      rw [if_neg (by omega), if_neg (by omega), p0]
    · dsimp only
      rw [if_neg e]
      refine ⟨?_, ((r0).setOther _ (by first | (simp; omega) | simp) _).setOther _ (by first | (simp; omega) | simp) _, u0⟩
      show (if _ then _ else if _ then _ else _) = _
      rw [if_neg (by omega), if_neg (by omega), s0]
theorem OwnTarget.below {w w' : World} {g n k : Nat} {f : Nat → Target} {B : Nat} (h : OwnTarget w g n k f) (hb : Below B w w') (hB : w.heap.size ≤ B) : OwnTarget w' g n k f := by
  have hl := h.lt
  obtain ⟨F, G0, hr, hF⟩ := h
  refine ⟨F, G0, hr.of_block (hb.block g (Nat.lt_of_lt_of_le hl hB)), fun i hi => ?_⟩
  obtain ⟨p0, ⟨s0, r0, u0⟩⟩ := hF i hi
  exact ⟨p0, ⟨s0, r0.below hb hB, u0⟩⟩
theorem OwnTarget.setOther {w : World} {g n k : Nat} {f : Nat → Target} (h : OwnTarget w g n k f) (p : Addr) (hp : p.block < g) (v : Value) : OwnTarget (w.setCell p v) g n k f := by
  obtain ⟨F, G0, hr, hF⟩ := h
  refine ⟨F, G0, hr.setOther (by omega) v, fun i hi => ?_⟩
  obtain ⟨p0, ⟨s0, r0, u0⟩⟩ := hF i hi
  exact ⟨p0, ⟨s0, r0.setOther p (by omega) v, u0⟩⟩
theorem OwnTarget.row {w : World} {g n : Nat} {f : Nat → Target} (h : OwnTarget w g n n f) : RowTarget w g 0 n f := by
  obtain ⟨F, G0, hr, hF⟩ := h
  refine ⟨hr.lt, fun i hi => ?_⟩
  obtain ⟨p0, ⟨s0, r0, u0⟩⟩ := hF i hi
  refine ⟨?_, ?_⟩
  · rw [Nat.zero_add, hr.cell (by omega), p0]
  · exact ⟨_, _, by rw [Nat.zero_add, hr.cell (by omega), s0], r0.sl⟩

set_option maxHeartbeats 2000000 in
theorem toTargetS_row (b off n cap : Nat) (f : Nat → Target) (w : World) (hn : n ≤ 1048576) (hf : RowTarget w b off n f) (hm : ∀ i, i < n → FitsTarget (f i)) :
    Calls Tryd.prog 46 #[.slice (some ⟨b, off, none⟩) n cap] w fun e w' => ∃ g, e = .returned (.slice (some ⟨g, 0, none⟩) n n) ∧ OwnTarget w' g n n f ∧ w.heap.size ≤ g ∧ Below w.heap.size w w' := by
  have HF := hide hf
  have HM := hide hm
  clear hf hm
  have hmk := mkTarget n hn
  go_enter Tryd.func46, Tryd.ntmps46
  go_wp2
  clear hmk
  go_loopw [4] (fun i wr => ∃ k : Nat, k ≤ n ∧ i = .int .i64 k ∧ OwnTarget wr w.heap.size n k f ∧ Below w.heap.size w wr) (fun i _ => n - (intOf i).toNat)
  case atStart => exact ⟨0, by omega, rfl, ownTarget_start w n f, (Below.refl _ _).alloc (Nat.le_refl _) _⟩
  case round =>
    obtain ⟨k, hk, rfl, hO, hB⟩ := hrel
    have HO := hide hO
    have HB := hide hB
    have hsz : w.heap.size ≤ wr.heap.size := hB.size
    have hlo : w.heap.size < wr.heap.size := hO.lt
    clear hB
    by_cases hlt : k < n
    · obtain ⟨p0, ⟨a0, cap0, s0, r0⟩⟩ := (HF.2 k hlt).below HB (Nat.le_refl _) HF.1
      have HR := hide (show SlIns wr a0 (f k).actN (f k).act from r0)
      clear hO r0
      go_wp2_with fail
      refine (toTarget_any (f k) a0 cap0 _ (HM k hlt) HR).mono ?_
      rintro e w1 ⟨g0, rfl, hR0, hg0, hB1⟩
      have HO1 := hide (HO.below hB1 (Nat.le_refl _))
      have R0 := hide hR0
      have HB1 := hide (HB.trans (hB1.mono hsz))
      clear hB1 hR0
      obtain ⟨F, G0, hr, _⟩ := HO1.out
      have d0 := hr.cell (i := k * 2) (by omega)
      have z0 := hr.frozen (k * 2)
      have d1 := hr.cell (i := k * 2 + 1) (by omega)
      have z1 := hr.frozen (k * 2 + 1)
      clear hr p0 s0
      go_wp2
      exact ⟨⟨k + 1, by omega, by go_num, HO1.step R0 (by omega), ((HB1).setCell (Nat.le_refl _) _).setCell (Nat.le_refl _) _⟩, by simp [intOf]; omega⟩
    · have e : k = n := by omega
      subst e
      clear hO
      go_wp2
      go_ret
      exact ⟨_, rfl, HO, Nat.le_refl _, HB⟩

set_option maxHeartbeats 1000000 in
theorem toTargetS_nil (a : Option Addr) (cap : Nat) (f : Nat → Target) (w : World) :
    Calls Tryd.prog 46 #[.slice a 0 cap] w fun e w' => ∃ g, e = .returned (.slice (some ⟨g, 0, none⟩) 0 0) ∧ OwnTarget w' g 0 0 f ∧ w.heap.size ≤ g ∧ Below w.heap.size w w' := by
  have hmk : ∀ w : World, (Instr.makeSlice 44 (.int .i64 0) (.int .i64 0)).run Tryd.prog w = .ok (.slice (some ⟨w.heap.size, 0, none⟩) 0 0) (w.alloc (.cells (zerosTarget 0) 78)) := fun w => mkTarget 0 (by omega) w
  go_enter Tryd.func46, Tryd.ntmps46
  go_wp2
  clear hmk
  go_loop [4] (fun i => i = .int .i64 0) (fun _ => 0)
  case atStart => rfl
  case round =>
    subst hrel
    go_wp2
    go_ret
    exact ⟨_, rfl, ownTarget_start w 0 f, Nat.le_refl _, (Below.refl _ _).alloc (Nat.le_refl _) _⟩

theorem toTargetS_any (a : Option Addr) (n cap : Nat) (f : Nat → Target) (w : World) (hn : n ≤ 1048576) (hv : SlTarget w a n f) (hm : ∀ i, i < n → FitsTarget (f i)) :
    Calls Tryd.prog 46 #[.slice a n cap] w fun e w' => ∃ g, e = .returned (.slice (some ⟨g, 0, none⟩) n n) ∧ OwnTarget w' g n n f ∧ w.heap.size ≤ g ∧ Below w.heap.size w w' := by
  rcases hv with rfl | ⟨b, off, rfl, hr⟩
  · exact toTargetS_nil a cap f w
  · exact toTargetS_row b off n cap f w hn hr hm

set_option maxHeartbeats 2000000 in
theorem eqTarget_any (x : Target) (a0 : Option Addr) (cap0 : Nat) (b0 : Option Addr) (dap0 : Nat) (w : World) (hfit : FitsTarget x) (hv0 : SlIns w a0 x.actN x.act) (hu0 : SlIns w b0 x.actN x.act) :
    Calls Tryd.prog 81 #[.agg #[.string x.name, .slice a0 x.actN cap0], .agg #[.string x.name, .slice b0 x.actN dap0]] w fun e w' => e = .returned (.bool true) ∧ Below w.heap.size w w' := by
  have V0 := hide hv0
  clear hv0
  have U0 := hide hu0
  clear hu0
  have hfit := hide hfit
  have B0 : Hid (Below w.heap.size w ((w.alloc (.cells #[.string x.name, .slice a0 x.actN cap0] 78)).alloc (.cells #[.string x.name, .slice b0 x.actN dap0] 78))) := ((Below.refl _ _).alloc (Nat.le_refl _) _).alloc (by simp) _
  go_enter Tryd.func81, Tryd.ntmps81
  go_wp2_with fail
  refine (eqProgram_any a0 b0 cap0 dap0 x.actN x.act _ hfit (V0.below B0 (Nat.le_refl _)) (U0.below B0 (Nat.le_refl _))).mono ?_
  rintro e w1 ⟨rfl, hB1⟩
  have bc1 := (bcell hB1).1
  have B1 := hide (B0.trans (hB1.mono B0.size))
  have hs1 : w.heap.size + 1 < w1.heap.size := by have := hB1.size; first | omega | (simp at this; omega)
  have ht1 : w.heap.size < w1.heap.size := by omega
  clear hB1
  go_wp2
  go_ret
  exact ⟨rfl, B1⟩

set_option maxHeartbeats 2000000 in
theorem eqTargetS_row (b off cap b2 off2 cap2 n : Nat) (f : Nat → Target) (w : World) (hn : n ≤ 1048576) (hf : RowTarget w b off n f) (hf2 : RowTarget w b2 off2 n f) (hm : ∀ i, i < n → FitsTarget (f i)) :
    Calls Tryd.prog 58 #[.slice (some ⟨b, off, none⟩) n cap, .slice (some ⟨b2, off2, none⟩) n cap2] w fun e w' => e = .returned (.bool true) ∧ Below w.heap.size w w' := by
  have HF := hide hf
  have HF2 := hide hf2
  have HM := hide hm
  clear hf hf2 hm
  go_enter Tryd.func58, Tryd.ntmps58
  go_wp2
  go_loopw [5] (fun i wr => ∃ k : Nat, k ≤ n ∧ i = .int .i64 k ∧ Below w.heap.size w wr) (fun i _ => n - (intOf i).toNat)
  case atStart => exact ⟨0, by omega, rfl, Below.refl _ _⟩
  case round =>
    obtain ⟨k, hk, rfl, hB⟩ := hrel
    have HB := hide hB
    have hsz : w.heap.size ≤ wr.heap.size := hB.size
    clear hB
    by_cases hlt : k < n
    · obtain ⟨p0, ⟨a0, cap0, s0, r0⟩⟩ := (HF.2 k hlt).below HB (Nat.le_refl _) HF.1
      obtain ⟨q0, ⟨b0, dap0, t0, v0⟩⟩ := (HF2.2 k hlt).below HB (Nat.le_refl _) HF2.1
      have HR := hide (show SlIns wr a0 (f k).actN (f k).act from r0)
      have HR2 := hide (show SlIns wr b0 (f k).actN (f k).act from v0)
      clear r0 v0
      go_wp2_with fail
      go_region_with (go_at_call 81; refine (eqTarget_any (f k) a0 cap0 b0 dap0 _ (HM k hlt) ?_ ?_).mono ?_; exact HR.out; exact HR2.out; rintro e w' ⟨rfl, hB'⟩)
      all_goals
        go_wp2
        exact ⟨⟨k + 1, by omega, by go_num, Below.trans (by repeat (first | exact HB | apply Below.drew)) (hB'.mono hsz)⟩, by simp [intOf]; omega⟩
    · have e : k = n := by omega
      subst e
      go_wp2
      go_ret
      exact ⟨rfl, HB⟩

set_option maxHeartbeats 1000000 in
theorem eqTargetS_nil (a a2 : Option Addr) (cap cap2 : Nat) (w : World) :
    Calls Tryd.prog 58 #[.slice a 0 cap, .slice a2 0 cap2] w fun e w' => e = .returned (.bool true) ∧ w' = w := by
  go_enter Tryd.func58, Tryd.ntmps58
  go_wp2
  go_loop [5] (fun i => i = .int .i64 0) (fun _ => 0)
  case atStart => rfl
  case round =>
    subst hrel
    go_wp2
    go_ret
    exact ⟨rfl, rfl⟩

theorem eqTargetS_any (a a2 : Option Addr) (cap cap2 n : Nat) (f : Nat → Target) (w : World) (hn : n ≤ 1048576) (h : SlTarget w a n f) (h2 : SlTarget w a2 n f) (hm : ∀ i, i < n → FitsTarget (f i)) :
    Calls Tryd.prog 58 #[.slice a n cap, .slice a2 n cap2] w fun e w' => e = .returned (.bool true) ∧ Below w.heap.size w w' := by
  by_cases hz : n = 0
  · subst hz
    exact (eqTargetS_nil a a2 cap cap2 w).mono fun _ _ ⟨a, b⟩ => ⟨a, by rw [b]; exact Below.refl _ _⟩
  · rcases h with h | ⟨b, off, rfl, hr⟩
    · exact absurd h hz
    · rcases h2 with h | ⟨b2, off2, rfl, hr2⟩
      · exact absurd h hz
      · exact eqTargetS_row b off cap b2 off2 cap2 n f w hn hr hr2 hm

end Go.Proofs.YtolpgafkojlkoaaDoor.Vp
