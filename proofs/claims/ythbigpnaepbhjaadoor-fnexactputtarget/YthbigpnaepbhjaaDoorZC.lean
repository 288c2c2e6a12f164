/-
  Put together of: DTarget, DSpace, DRowS, DName, VpWord, VpOk, VpTab, VpSpec, VpImpl, VpSl.
-/
import Derived.Test.YthbigpnaepbhjaaDoorZB

/-
  Data: Target: sizes, copies, comparisons; its cells hold slices. Written by tools/nest.py.
-/
namespace Go.Proofs.YthbigpnaepbhjaaDoor.Vp
open Go.RowKit

structure Target where
  name : ByteArray
  actN : Nat
  act : Nat → Ins
/-- What each reading gives: no text is too long for an int, no slice. -/
def SizedTarget (x : Target) : Prop := x.name.size ≤ maxLen ∧ ((x.actN : Int) ≤ 9223372036854775807 ∧ ∀ j, j < x.actN → (x.act j).s.size ≤ maxLen)
/-- No slice is longer than what the law lets in. -/
def FitsTarget (x : Target) : Prop := x.actN ≤ 1048576

/-- The cells of element i of a row that begins at off in block b. -/
def AtTarget (w : World) (b off i : Nat) (x : Target) : Prop :=
  w.cell? ⟨b, off + i * 2, none⟩ = some (.string x.name) ∧ (∃ a cap, w.cell? ⟨b, off + i * 2 + 1, none⟩ = some (.slice a x.actN cap) ∧ SlIns w a x.actN x.act)
theorem AtTarget.below {w w' : World} {B b off i : Nat} {x : Target} (h : AtTarget w b off i x) (hb : Below B w w') (hB : w.heap.size ≤ B) (hl : b < w.heap.size) : AtTarget w' b off i x := by
  obtain ⟨p0, ⟨a0, cap0, s0, r0⟩⟩ := h
  refine ⟨(hb.cell (p := ⟨b, _, none⟩) (Nat.lt_of_lt_of_le hl hB)).trans p0, ⟨a0, cap0, (hb.cell (p := ⟨b, _, none⟩) (Nat.lt_of_lt_of_le hl hB)).trans s0, r0.below hb hB⟩⟩
def RowTarget (w : World) (b off n : Nat) (f : Nat → Target) : Prop := b < w.heap.size ∧ ∀ i, i < n → AtTarget w b off i (f i)
theorem RowTarget.below {w w' : World} {B b off n : Nat} {f : Nat → Target} (h : RowTarget w b off n f) (hb : Below B w w') (hB : w.heap.size ≤ B) : RowTarget w' b off n f :=
  ⟨Nat.lt_of_lt_of_le h.1 hb.size, fun i hi => (h.2 i hi).below hb hB h.1⟩
def SlTarget (w : World) (a : Option Addr) (n : Nat) (f : Nat → Target) : Prop := n = 0 ∨ ∃ b off, a = some ⟨b, off, none⟩ ∧ RowTarget w b off n f
theorem SlTarget.below {w w' : World} {B : Nat} {a : Option Addr} {n : Nat} {f : Nat → Target} (h : SlTarget w a n f) (hb : Below B w w') (hB : w.heap.size ≤ B) : SlTarget w' a n f := by
  rcases h with h | ⟨b, off, hv, hr⟩
  · exact .inl h
  · exact .inr ⟨b, off, hv, hr.below hb hB⟩
theorem RowTarget.sl {w : World} {b off n : Nat} {f : Nat → Target} (h : RowTarget w b off n f) : SlTarget w (some ⟨b, off, none⟩) n f := .inr ⟨b, off, rfl, h⟩

set_option maxHeartbeats 1000000 in
theorem szTarget_any (x : Target) (a0 : Option Addr) (cap0 : Nat) (left : Int) (w : World) (hz : SizedTarget x) (hv0 : SlIns w a0 x.actN x.act) (l0 : 0 ≤ left) (l1 : left ≤ 1048576) :
    Calls Tryd.prog 54 #[.agg #[.string x.name, .slice a0 x.actN cap0], .int .i64 left] w fun e w' => ∃ r : Int, e = .returned (.int .i64 r) ∧ -1 ≤ r ∧ r ≤ left ∧ (0 ≤ r → FitsTarget x) ∧ Below w.heap.size w w' := by
  have V0 := hide hv0
  clear hv0
  have zname := hz.1
  unfold maxLen at zname
  have Sz := hide hz
  clear hz
  have B0 := hide ((Below.refl w.heap.size w).alloc (Nat.le_refl _) (.cells #[.string x.name, .slice a0 x.actN cap0] 83))
  go_enter Tryd.func54, Tryd.ntmps54
  go_wp2_with (first | (go_at_call 13; refine (szProgram_any a0 x.actN cap0 x.act _ _ ?_ ?_ (Sz.out.2).1 ?_ (Sz.out.2).2).mono ?_; omega; omega; exact V0.out.below B0.out (Nat.le_refl _); rintro e w1 ⟨r0, rfl, l0, m0, n0, hB0⟩; have B1 := hide (B0.out.trans (hB0.mono B0.out.size)); have bc0 := (bcell hB0).1; clear hB0))
  all_goals go_ret
  all_goals first
    | exact ⟨-1, rfl, by omega, by omega, fun _ => by omega, by first | exact B1.out | exact B0.out⟩
    | exact ⟨_, rfl, by omega, by omega, fun _ => (show (_ : Nat) ≤ 1048576 from by have := n0 (by omega); omega), B1.out⟩

set_option maxHeartbeats 400000 in
theorem szTargetS_big (a : Option Addr) (n cap : Nat) (left : Int) (w : World) (h0 : 0 ≤ left) (h1 : left ≤ 1048576) (hn : (n : Int) ≤ 9223372036854775807) (h : left < (n : Int)) :
    Calls Tryd.prog 22 #[.slice a n cap, .int .i64 left] w fun e w' => e = .returned (.int .i64 (-1)) ∧ w' = w := by
  go_enter Tryd.func22, Tryd.ntmps22
  go_wp2
  go_ret
  exact ⟨rfl, rfl⟩

set_option maxHeartbeats 1000000 in
theorem szTargetS_row (b off n cap : Nat) (f : Nat → Target) (left : Int) (w : World) (h0 : (n : Int) ≤ left) (h1 : left ≤ 1048576) (hf : RowTarget w b off n f) (hs : ∀ i, i < n → SizedTarget (f i)) :
    Calls Tryd.prog 22 #[.slice (some ⟨b, off, none⟩) n cap, .int .i64 left] w fun e w' => ∃ r : Int, e = .returned (.int .i64 r) ∧ -1 ≤ r ∧ r ≤ left ∧ (0 ≤ r → ∀ i, i < n → FitsTarget (f i)) ∧ Below w.heap.size w w' := by
  have HF := hide hf
  have HS := hide hs
  clear hf hs
  go_enter Tryd.func22, Tryd.ntmps22
  go_wp2
  go_loopw [1, 5] (fun l i wr => ∃ k : Nat, ∃ r : Int, k ≤ n ∧ 0 ≤ r ∧ r ≤ left ∧ i = .int .i64 k ∧ l = .int .i64 r ∧ Hid (∀ i, i < k → FitsTarget (f i)) ∧ Below w.heap.size w wr) (fun _ i _ => n - (intOf i).toNat)
  case atStart => exact ⟨0, left - n, by omega, by omega, by omega, rfl, rfl, fun i hi => absurd hi (Nat.not_lt_zero _), Below.refl _ _⟩
  case round =>
    obtain ⟨k, r, hk, hr0, hr1, rfl, rfl, hfit, hB⟩ := hrel
    have HB := hide hB
    have hsz : w.heap.size ≤ wr.heap.size := hB.size
    clear hB
    by_cases hlt : k < n
    · obtain ⟨p0, ⟨a0, cap0, s0, r0⟩⟩ := (HF.out.2 k hlt).below HB.out (Nat.le_refl _) HF.out.1
      have HR := hide (show SlIns wr a0 (f k).actN (f k).act from r0)
      clear r0
      go_wp2_with fail
      refine (szTarget_any (f k) a0 cap0 _ _ (HS.out k hlt) HR.out (by omega) (by omega)).mono ?_
      rintro e w' ⟨r', rfl, hr2, hr3, hr4, hB'⟩
      have HR4 := hide hr4
      have HB' := hide (HB.out.trans (hB'.mono hsz))
      clear hr4 hB'
      go_wp2
      · go_ret
        exact ⟨-1, rfl, by omega, by omega, fun _ => by omega, HB'.out⟩
      · exact ⟨⟨k + 1, r', by omega, by omega, by omega, by go_num, rfl, fun i hi => by
          by_cases e : i = k
          · subst e; exact HR4.out (by omega)
          · exact hfit i (by omega), HB'.out⟩, by simp [intOf]; omega⟩
    · have e : k = n := by omega
      subst e
      go_wp2
      go_ret
      exact ⟨r, rfl, by omega, by omega, fun _ => hfit, HB.out⟩

set_option maxHeartbeats 400000 in
theorem szTargetS_nil (a : Option Addr) (cap : Nat) (left : Int) (w : World) (h0 : 0 ≤ left) (h1 : left ≤ 1048576) :
    Calls Tryd.prog 22 #[.slice a 0 cap, .int .i64 left] w fun e w' => e = .returned (.int .i64 left) ∧ w' = w := by
  go_enter Tryd.func22, Tryd.ntmps22
  go_wp2
  go_loop [1, 5] (fun l i => l = .int .i64 left ∧ i = .int .i64 0) (fun _ _ => 0)
  case atStart => exact ⟨by simp, rfl⟩
  case round =>
    obtain ⟨rfl, rfl⟩ := hrel
    go_wp2
    go_ret
    exact ⟨rfl, rfl⟩

theorem szTargetS_any (a : Option Addr) (n cap : Nat) (f : Nat → Target) (left : Int) (w : World) (h0 : 0 ≤ left) (h1 : left ≤ 1048576) (hn : (n : Int) ≤ 9223372036854775807) (hv : SlTarget w a n f) (hs : ∀ i, i < n → SizedTarget (f i)) :
    Calls Tryd.prog 22 #[.slice a n cap, .int .i64 left] w fun e w' => ∃ r : Int, e = .returned (.int .i64 r) ∧ -1 ≤ r ∧ r ≤ left ∧ (0 ≤ r → (n : Int) ≤ left ∧ ∀ i, i < n → FitsTarget (f i)) ∧ Below w.heap.size w w' := by
  rcases hv with rfl | ⟨b, off, rfl, hr⟩
  · exact (szTargetS_nil a cap left w h0 h1).mono fun e w' ⟨a, b⟩ => ⟨_, a, by omega, by omega, fun _ => ⟨by omega, fun i hi => absurd hi (Nat.not_lt_zero _)⟩, by rw [b]; exact Below.refl _ _⟩
  · by_cases h : (n : Int) ≤ left
    · exact (szTargetS_row b off n cap f left w h h1 hr hs).mono fun e w' ⟨r, a, b, c, d, e⟩ => ⟨r, a, b, c, fun g => ⟨h, d g⟩, e⟩
    · exact (szTargetS_big _ n cap left w h0 h1 hn (by omega)).mono fun e w' ⟨a, b⟩ => ⟨_, a, by omega, by omega, fun _ => by omega, by rw [b]; exact Below.refl _ _⟩

set_option maxHeartbeats 2000000 in
theorem toTarget_any (x : Target) (a0 : Option Addr) (cap0 : Nat) (w : World) (hfit : FitsTarget x) (hv0 : SlIns w a0 x.actN x.act) :
    Calls Tryd.prog 56 #[.agg #[.string x.name, .slice a0 x.actN cap0]] w fun e w' => ∃ g0, e = .returned (.agg #[.string x.name, .slice (some ⟨g0, 0, none⟩) x.actN x.actN]) ∧ RowIns w' g0 0 x.actN x.act ∧ w.heap.size ≤ g0 ∧ Below w.heap.size w w' := by
  have V0 := hide hv0
  clear hv0
  have hfit := hide hfit
  have A0 : Hid (Below w.heap.size w (((w.alloc (.cells #[.string x.name, .slice a0 x.actN cap0] 83)).alloc (.cells #[.string ⟨#[]⟩, .slice none 0 0] 72)).alloc (.cells #[.string x.name, .slice none 0 0] 72))) := (((Below.refl _ _).alloc (Nat.le_refl _) _).alloc (by simp) _).alloc (by first | (simp; omega) | simp) _
  go_enter Tryd.func56, Tryd.ntmps56
  go_wp2_with fail
  refine (toProgram_any a0 x.actN cap0 x.act _ hfit.out (V0.out.below A0.out (Nat.le_refl _))).mono ?_
  rintro e w1 ⟨g0, rfl, hR0, hg0, hB1⟩
  have R0 := hide hR0
  obtain ⟨hc1, hz1⟩ := bcell hB1
  have B1 := hide (A0.out.trans (hB1.mono A0.out.size))
  have hs1 : w.heap.size + 1 + 1 < w1.heap.size := by have := hB1.size; simp at this; omega
  have hu1 : w.heap.size + 1 < w1.heap.size := by omega
  have ht1 : w.heap.size < w1.heap.size := by omega
  have D1 := hide hB1
  clear hR0 hB1
  simp at hg0
  have q0 : w1.cell? ⟨w.heap.size + 1, 0, none⟩ = some (.string ⟨#[]⟩) := by
    rw [D1.out.cell (p := ⟨w.heap.size + 1, 0, none⟩) (by first | (simp; omega) | simp)]
    simp [go_sem]
  have q1 : w1.cell? ⟨w.heap.size + 1, 1, none⟩ = some (.slice none 0 0) := by
    rw [D1.out.cell (p := ⟨w.heap.size + 1, 1, none⟩) (by first | (simp; omega) | simp)]
    simp [go_sem]
  go_wp2
  exact bodyPost_ret (v := .agg #[.string x.name, .slice (some ⟨g0, 0, none⟩) x.actN x.actN]) (by simp [results, Tryd.results56, go_sem, q0, q1]) rfl ⟨g0, rfl, (((R0.out).setOther _ (by first | (simp; omega) | simp) _).setOther _ (by first | (simp; omega) | simp) _).setOther _ (by first | (simp; omega) | simp) _, by omega, (((B1.out).setCell (by first | (simp; omega) | simp) _).setCell (by first | (simp; omega) | simp) _).setCell (by first | (simp; omega) | simp) _⟩

theorem infoTarget : (Tryd.prog.info? 72).map (fun i => (i.zero, i.size, i.bytes)) = some (some (.agg #[.string ⟨#[]⟩, .slice none 0 0]), 2, 40) := by kernel_rfl
def zerosTarget (n : Nat) : Array Value := madeCells (Value.agg #[.string ⟨#[]⟩, .slice none 0 0]).cells (n * 2)
theorem mkTarget (n : Nat) (hn : n ≤ 1048576) (w : World) : (Instr.makeSlice 28 (.int .i64 (n : Int)) (.int .i64 (n : Int))).run Tryd.prog w = .ok (.slice (some ⟨w.heap.size, 0, none⟩) n n) (w.alloc (.cells (zerosTarget n) 72)) := by
  obtain ⟨i, hi, hz⟩ := Option.map_eq_some_iff.1 infoTarget
  simp only [Prod.mk.injEq] at hz
  obtain ⟨h1, h2, h3⟩ := hz
  have h := run_make (P := Tryd.prog) w 28 72 i _ Tryd.underlying28 hi h1 .i64 .i64 n n (by omega) (Int.le_refl _) (by rw [h3]; omega) (by omega)
  rw [h2] at h
  simpa [zerosTarget] using h

/-- Block g is a row of n elements' cells; the first k are those of f, their slices rows of blocks behind g. -/
def OwnTarget (w : World) (g n k : Nat) (f : Nat → Target) : Prop :=
  ∃ (F : Nat → Value) (G0 : Nat → Nat), w.rowIs g 72 (n * 2) F ∧ ∀ i, i < k → F (i * 2) = .string (f i).name ∧ (F (i * 2 + 1) = .slice (some ⟨G0 i, 0, none⟩) (f i).actN (f i).actN ∧ RowIns w (G0 i) 0 (f i).actN (f i).act ∧ g < G0 i)
theorem OwnTarget.lt {w : World} {g n k : Nat} {f : Nat → Target} (h : OwnTarget w g n k f) : g < w.heap.size := by
  obtain ⟨F, G0, hr, _⟩ := h
  exact hr.lt
theorem ownTarget_start (w : World) (n : Nat) (f : Nat → Target) : OwnTarget (w.alloc (.cells (zerosTarget n) 72)) w.heap.size n 0 f := by
  have hz : (zerosTarget n).size = n * 2 := size_madeCells _ _
  have h := World.rowIs_alloc w (zerosTarget n) 72 (fun i => (zerosTarget n)[i]?.getD undef) (fun i hi => by rw [Array.getElem?_eq_getElem hi]; rfl)
  rw [hz] at h
  exact ⟨_, fun _ => 0, h, fun i hi => absurd hi (Nat.not_lt_zero _)⟩
theorem OwnTarget.step {w : World} {g n k g0 : Nat} {f : Nat → Target} (h : OwnTarget w g n k f) (R0 : RowIns w g0 0 (f k).actN (f k).act) (hg0 : g < g0) :
    OwnTarget ((w.setCell ⟨g, k * 2, none⟩ (.string (f k).name)).setCell ⟨g, k * 2 + 1, none⟩ (.slice (some ⟨g0, 0, none⟩) (f k).actN (f k).actN)) g n (k + 1) f := by
  obtain ⟨F, G0, hr, hF⟩ := h
  refine ⟨_, fun i => if i = k then g0 else G0 i, ((hr.set _ _).set _ _), fun i hi => ?_⟩
  by_cases e : i = k
  · subst e
    exact ⟨by simp, ⟨by simp, by dsimp only; rw [if_pos rfl]; exact ((R0).setOther _ (by first | (simp; omega) | simp) _).setOther _ (by first | (simp; omega) | simp) _, by dsimp only; rw [if_pos rfl]; exact hg0⟩⟩
  · obtain ⟨p0, ⟨s0, r0, u0⟩⟩ := hF i (by omega)
    refine ⟨?_, ?_⟩
    · show (if _ then _ else if _ then _ else _) = _
      rw [if_neg (by omega), if_neg (by omega), p0]
    · dsimp only
      rw [if_neg e]
      refine ⟨?_, ((r0).setOther _ (by first | (simp; omega) | simp) _).setOther _ (by first | (simp; omega) | simp) _, u0⟩
      show (if _ then _ else if _ then _ else _) = _
      rw [if_neg (by omega), if_neg (by omega), s0]
theorem OwnTarget.below {w w' : World} {g n k : Nat} {f : Nat → Target} {B : Nat} (h : OwnTarget w g n k f) (hb : Below B w w') (hB : w.heap.size ≤ B) : OwnTarget w' g n k f := by
  have hl := h.lt
  obtain ⟨F, G0, hr, hF⟩ := h
  refine ⟨F, G0, hr.of_block (hb.block g (Nat.lt_of_lt_of_le hl hB)), fun i hi => ?_⟩
  obtain ⟨p0, ⟨s0, r0, u0⟩⟩ := hF i hi
  exact ⟨p0, ⟨s0, r0.below hb hB, u0⟩⟩
theorem OwnTarget.setOther {w : World} {g n k : Nat} {f : Nat → Target} (h : OwnTarget w g n k f) (p : Addr) (hp : p.block < g) (v : Value) : OwnTarget (w.setCell p v) g n k f := by
  obtain ⟨F, G0, hr, hF⟩ := h
  refine ⟨F, G0, hr.setOther (by omega) v, fun i hi => ?_⟩
  obtain ⟨p0, ⟨s0, r0, u0⟩⟩ := hF i hi
  exact ⟨p0, ⟨s0, r0.setOther p (by omega) v, u0⟩⟩
theorem OwnTarget.row {w : World} {g n : Nat} {f : Nat → Target} (h : OwnTarget w g n n f) : RowTarget w g 0 n f := by
  obtain ⟨F, G0, hr, hF⟩ := h
  refine ⟨hr.lt, fun i hi => ?_⟩
  obtain ⟨p0, ⟨s0, r0, u0⟩⟩ := hF i hi
  refine ⟨?_, ?_⟩
  · rw [Nat.zero_add, hr.cell (by omega), p0]
  · exact ⟨_, _, by rw [Nat.zero_add, hr.cell (by omega), s0], r0.sl⟩

set_option maxHeartbeats 2000000 in
theorem toTargetS_row (b off n cap : Nat) (f : Nat → Target) (w : World) (hn : n ≤ 1048576) (hf : RowTarget w b off n f) (hm : ∀ i, i < n → FitsTarget (f i)) :
    Calls Tryd.prog 27 #[.slice (some ⟨b, off, none⟩) n cap] w fun e w' => ∃ g, e = .returned (.slice (some ⟨g, 0, none⟩) n n) ∧ OwnTarget w' g n n f ∧ w.heap.size ≤ g ∧ Below w.heap.size w w' := by
  have HF := hide hf
  have HM := hide hm
  clear hf hm
  have hmk := mkTarget n hn
  go_enter Tryd.func27, Tryd.ntmps27
  go_wp2
  clear hmk
  go_loopw [4] (fun i wr => ∃ k : Nat, k ≤ n ∧ i = .int .i64 k ∧ OwnTarget wr w.heap.size n k f ∧ Below w.heap.size w wr) (fun i _ => n - (intOf i).toNat)
  case atStart => exact ⟨0, by omega, rfl, ownTarget_start w n f, (Below.refl _ _).alloc (Nat.le_refl _) _⟩
  case round =>
    obtain ⟨k, hk, rfl, hO, hB⟩ := hrel
    have HO := hide hO
    have HB := hide hB
    have hsz : w.heap.size ≤ wr.heap.size := hB.size
    have hlo : w.heap.size < wr.heap.size := hO.lt
    clear hB
    by_cases hlt : k < n
    · obtain ⟨p0, ⟨a0, cap0, s0, r0⟩⟩ := (HF.out.2 k hlt).below HB.out (Nat.le_refl _) HF.out.1
      have HR := hide (show SlIns wr a0 (f k).actN (f k).act from r0)
      clear hO r0
      go_wp2_with fail
      refine (toTarget_any (f k) a0 cap0 _ (HM.out k hlt) HR.out).mono ?_
      rintro e w1 ⟨g0, rfl, hR0, hg0, hB1⟩
      have HO1 := hide (HO.out.below hB1 (Nat.le_refl _))
      have R0 := hide hR0
      have HB1 := hide (HB.out.trans (hB1.mono hsz))
      clear hB1 hR0
      obtain ⟨F, G0, hr, _⟩ := HO1.out
      have d0 := hr.cell (i := k * 2) (by omega)
      have z0 := hr.frozen (k * 2)
      have d1 := hr.cell (i := k * 2 + 1) (by omega)
      have z1 := hr.frozen (k * 2 + 1)
      clear hr p0 s0
      go_wp2
      exact ⟨⟨k + 1, by omega, by go_num, HO1.out.step R0.out (by omega), ((HB1.out).setCell (Nat.le_refl _) _).setCell (Nat.le_refl _) _⟩, by simp [intOf]; omega⟩
    · have e : k = n := by omega
      subst e
      clear hO
      go_wp2
      go_ret
      exact ⟨_, rfl, HO.out, Nat.le_refl _, HB.out⟩

set_option maxHeartbeats 1000000 in
theorem toTargetS_nil (a : Option Addr) (cap : Nat) (f : Nat → Target) (w : World) :
    Calls Tryd.prog 27 #[.slice a 0 cap] w fun e w' => ∃ g, e = .returned (.slice (some ⟨g, 0, none⟩) 0 0) ∧ OwnTarget w' g 0 0 f ∧ w.heap.size ≤ g ∧ Below w.heap.size w w' := by
  have hmk : ∀ w : World, (Instr.makeSlice 28 (.int .i64 0) (.int .i64 0)).run Tryd.prog w = .ok (.slice (some ⟨w.heap.size, 0, none⟩) 0 0) (w.alloc (.cells (zerosTarget 0) 72)) := fun w => mkTarget 0 (by omega) w
  go_enter Tryd.func27, Tryd.ntmps27
  go_wp2
  clear hmk
  go_loop [4] (fun i => i = .int .i64 0) (fun _ => 0)
  case atStart => rfl
  case round =>
    subst hrel
    go_wp2
    go_ret
    exact ⟨_, rfl, ownTarget_start w 0 f, Nat.le_refl _, (Below.refl _ _).alloc (Nat.le_refl _) _⟩

theorem toTargetS_any (a : Option Addr) (n cap : Nat) (f : Nat → Target) (w : World) (hn : n ≤ 1048576) (hv : SlTarget w a n f) (hm : ∀ i, i < n → FitsTarget (f i)) :
    Calls Tryd.prog 27 #[.slice a n cap] w fun e w' => ∃ g, e = .returned (.slice (some ⟨g, 0, none⟩) n n) ∧ OwnTarget w' g n n f ∧ w.heap.size ≤ g ∧ Below w.heap.size w w' := by
  rcases hv with rfl | ⟨b, off, rfl, hr⟩
  · exact toTargetS_nil a cap f w
  · exact toTargetS_row b off n cap f w hn hr hm

set_option maxHeartbeats 2000000 in
theorem eqTarget_any (x : Target) (a0 : Option Addr) (cap0 : Nat) (b0 : Option Addr) (dap0 : Nat) (w : World) (hfit : FitsTarget x) (hv0 : SlIns w a0 x.actN x.act) (hu0 : SlIns w b0 x.actN x.act) :
    Calls Tryd.prog 64 #[.agg #[.string x.name, .slice a0 x.actN cap0], .agg #[.string x.name, .slice b0 x.actN dap0]] w fun e w' => e = .returned (.bool true) ∧ Below w.heap.size w w' := by
  have V0 := hide hv0
  clear hv0
  have U0 := hide hu0
  clear hu0
  have hfit := hide hfit
  have B0 : Hid (Below w.heap.size w ((w.alloc (.cells #[.string x.name, .slice a0 x.actN cap0] 72)).alloc (.cells #[.string x.name, .slice b0 x.actN dap0] 72))) := ((Below.refl _ _).alloc (Nat.le_refl _) _).alloc (by simp) _
  go_enter Tryd.func64, Tryd.ntmps64
  go_wp2_with fail
  refine (eqProgram_any a0 b0 cap0 dap0 x.actN x.act _ hfit.out (V0.out.below B0.out (Nat.le_refl _)) (U0.out.below B0.out (Nat.le_refl _))).mono ?_
  rintro e w1 ⟨rfl, hB1⟩
  have bc1 := (bcell hB1).1
  have B1 := hide (B0.out.trans (hB1.mono B0.out.size))
  have hs1 : w.heap.size + 1 < w1.heap.size := by have := hB1.size; first | omega | (simp at this; omega)
  have ht1 : w.heap.size < w1.heap.size := by omega
  clear hB1
  go_wp2
  go_ret
  exact ⟨rfl, B1.out⟩

set_option maxHeartbeats 2000000 in
theorem eqTargetS_row (b off cap b2 off2 cap2 n : Nat) (f : Nat → Target) (w : World) (hn : n ≤ 1048576) (hf : RowTarget w b off n f) (hf2 : RowTarget w b2 off2 n f) (hm : ∀ i, i < n → FitsTarget (f i)) :
    Calls Tryd.prog 32 #[.slice (some ⟨b, off, none⟩) n cap, .slice (some ⟨b2, off2, none⟩) n cap2] w fun e w' => e = .returned (.bool true) ∧ Below w.heap.size w w' := by
  have HF := hide hf
  have HF2 := hide hf2
  have HM := hide hm
  clear hf hf2 hm
  go_enter Tryd.func32, Tryd.ntmps32
  go_wp2
  go_loopw [5] (fun i wr => ∃ k : Nat, k ≤ n ∧ i = .int .i64 k ∧ Below w.heap.size w wr) (fun i _ => n - (intOf i).toNat)
  case atStart => exact ⟨0, by omega, rfl, Below.refl _ _⟩
  case round =>
    obtain ⟨k, hk, rfl, hB⟩ := hrel
    have HB := hide hB
    have hsz : w.heap.size ≤ wr.heap.size := hB.size
    clear hB
    by_cases hlt : k < n
    · obtain ⟨p0, ⟨a0, cap0, s0, r0⟩⟩ := (HF.out.2 k hlt).below HB.out (Nat.le_refl _) HF.out.1
      obtain ⟨q0, ⟨b0, dap0, t0, v0⟩⟩ := (HF2.out.2 k hlt).below HB.out (Nat.le_refl _) HF2.out.1
      have HR := hide (show SlIns wr a0 (f k).actN (f k).act from r0)
      have HR2 := hide (show SlIns wr b0 (f k).actN (f k).act from v0)
      clear r0 v0
      go_wp2_with fail
      go_region_with (go_at_call 64; refine (eqTarget_any (f k) a0 cap0 b0 dap0 _ (HM.out k hlt) ?_ ?_).mono ?_; exact HR.out; exact HR2.out; rintro e w' ⟨rfl, hB'⟩)
      all_goals
        go_wp2
        exact ⟨⟨k + 1, by omega, by go_num, Below.trans (by repeat (first | exact HB.out | apply Below.drew)) (hB'.mono hsz)⟩, by simp [intOf]; omega⟩
    · have e : k = n := by omega
      subst e
      go_wp2
      go_ret
      exact ⟨rfl, HB.out⟩

set_option maxHeartbeats 1000000 in
theorem eqTargetS_nil (a a2 : Option Addr) (cap cap2 : Nat) (w : World) :
    Calls Tryd.prog 32 #[.slice a 0 cap, .slice a2 0 cap2] w fun e w' => e = .returned (.bool true) ∧ w' = w := by
  go_enter Tryd.func32, Tryd.ntmps32
  go_wp2
  go_loop [5] (fun i => i = .int .i64 0) (fun _ => 0)
  case atStart => rfl
  case round =>
    subst hrel
    go_wp2
    go_ret
    exact ⟨rfl, rfl⟩

theorem eqTargetS_any (a a2 : Option Addr) (cap cap2 n : Nat) (f : Nat → Target) (w : World) (hn : n ≤ 1048576) (h : SlTarget w a n f) (h2 : SlTarget w a2 n f) (hm : ∀ i, i < n → FitsTarget (f i)) :
    Calls Tryd.prog 32 #[.slice a n cap, .slice a2 n cap2] w fun e w' => e = .returned (.bool true) ∧ Below w.heap.size w w' := by
  by_cases hz : n = 0
  · subst hz
    exact (eqTargetS_nil a a2 cap cap2 w).mono fun _ _ ⟨a, b⟩ => ⟨a, by rw [b]; exact Below.refl _ _⟩
  · rcases h with h | ⟨b, off, rfl, hr⟩
    · exact absurd h hz
    · rcases h2 with h | ⟨b2, off2, rfl, hr2⟩
      · exact absurd h hz
      · exact eqTargetS_row b off cap b2 off2 cap2 n f w hn hr hr2 hm

end Go.Proofs.YthbigpnaepbhjaaDoor.Vp

/-
  Data: Space: two rows; its sz, to, eq functions.
-/
namespace Go.Proofs.YthbigpnaepbhjaaDoor.Vp
open Go.RowKit

set_option maxHeartbeats 1000000 in
theorem szSpace_any (a0 : Option Addr) (n0 c0 : Nat) (f0 : Nat → Source) (a1 : Option Addr) (n1 c1 : Nat) (f1 : Nat → Target) (left : Int) (w : World) (h0 : 0 ≤ left) (h1 : left ≤ 1048576) (hn0 : (n0 : Int) ≤ 9223372036854775807) (hn1 : (n1 : Int) ≤ 9223372036854775807)
    (hv0 : SlSource w a0 n0 f0) (hs0 : ∀ i, i < n0 → (f0 i).name.size ≤ maxLen ∧ (f0 i).text.size ≤ maxLen) (hv1 : SlTarget w a1 n1 f1) (hs1 : ∀ i, i < n1 → SizedTarget (f1 i)) :
    Calls Tryd.prog 6 #[.agg #[.slice a0 n0 c0, .slice a1 n1 c1], .int .i64 left] w fun e w' => ∃ r : Int, e = .returned (.int .i64 r) ∧ -1 ≤ r ∧ r ≤ left ∧ (0 ≤ r → (n0 : Int) ≤ left ∧ (n1 : Int) ≤ left ∧ ∀ i, i < n1 → FitsTarget (f1 i)) ∧ Below w.heap.size w w' := by
  have HV0 := hide hv0
  have HV1 := hide hv1
  have HS0 := hide hs0
  have HS1 := hide hs1
  clear hv0 hv1 hs0 hs1
  have B0 := hide ((Below.refl w.heap.size w).alloc (Nat.le_refl _) (.cells #[.slice a0 n0 c0, .slice a1 n1 c1] 25))
  go_enter Tryd.func6, Tryd.ntmps6
  go_wp2_with fail
  refine (szSourceS_any a0 n0 c0 f0 left _ h0 h1 hn0 (HV0.out.below B0.out (Nat.le_refl _)) HS0.out).mono ?_
  rintro e w1 ⟨r, rfl, hr1, hr2, hr3, hB⟩
  have c1' : w1.cell? ⟨w.heap.size, 1, none⟩ = some (.slice a1 n1 c1) := (hB.cell (p := ⟨w.heap.size, 1, none⟩) (by simp)).trans (by simp)
  have B1 := hide (B0.out.trans (hB.mono (by simp)))
  clear hB B0
  by_cases hr : r < 0
  · clear hr3
    go_wp2
    go_ret
    exact ⟨-1, rfl, by omega, by omega, fun _ => by omega, B1.out⟩
  have hq := hr3 (by omega)
  clear hr3
  go_wp2_with fail
  refine (szTargetS_any a1 n1 c1 f1 r _ (by omega) (by omega) hn1 (HV1.out.below B1.out (Nat.le_refl _)) HS1.out).mono ?_
  rintro e w2 ⟨q, rfl, hq1, hq2, hq3, hB⟩
  have B2 := hide (B1.out.trans (hB.mono B1.out.size))
  have HQ := hide hq3
  clear hB hq3
  go_wp2
  all_goals go_ret
  · exact ⟨-1, rfl, by omega, by omega, fun _ => by omega, B2.out⟩
  · exact ⟨q, rfl, hq1, by omega, fun h => ⟨hq, by have := (HQ.out h).1; omega, (HQ.out h).2⟩, B2.out⟩

set_option maxHeartbeats 1000000 in
theorem toSpace_any (a0 : Option Addr) (n0 c0 : Nat) (f0 : Nat → Source) (a1 : Option Addr) (n1 c1 : Nat) (f1 : Nat → Target) (w : World) (hn0 : n0 ≤ 1048576) (hn1 : n1 ≤ 1048576) (hv0 : SlSource w a0 n0 f0) (hv1 : SlTarget w a1 n1 f1) (hm : ∀ i, i < n1 → FitsTarget (f1 i)) :
    Calls Tryd.prog 8 #[.agg #[.slice a0 n0 c0, .slice a1 n1 c1]] w fun e w' => ∃ g0 g1, e = .returned (.agg #[.slice (some ⟨g0, 0, none⟩) n0 n0, .slice (some ⟨g1, 0, none⟩) n1 n1]) ∧ RowSource w' g0 0 n0 f0 ∧ w.heap.size ≤ g0 ∧ OwnTarget w' g1 n1 n1 f1 ∧ g0 < g1 ∧ Below w.heap.size w w' := by
  have HV0 := hide hv0
  have HV1 := hide hv1
  have HM := hide hm
  clear hv0 hv1 hm
  have A0 := hide ((((Below.refl w.heap.size w).alloc (Nat.le_refl _) (.cells #[.slice a0 n0 c0, .slice a1 n1 c1] 25)).alloc (by simp) (.cells #[.slice none 0 0, .slice none 0 0] 30)).alloc (by first | (simp; omega) | simp) (.cells #[.slice none 0 0, .slice none 0 0] 30))
  go_enter Tryd.func8, Tryd.ntmps8
  go_wp2_with fail
  refine (toSourceS_any a0 n0 c0 f0 _ hn0 (HV0.out.below A0.out (Nat.le_refl _))).mono ?_
  rintro e w1 ⟨g0, rfl, hR0, hg0, hB1⟩
  have R0 := hide hR0
  obtain ⟨hc1, hz1⟩ := bcell hB1
  have B1 := hide (A0.out.trans (hB1.mono A0.out.size))
  have hs1 : w.heap.size + 1 + 1 < w1.heap.size := by have := hB1.size; simp at this; omega
  have hu1 : w.heap.size + 1 < w1.heap.size := by omega
  have ht1 : w.heap.size < w1.heap.size := by omega
  have D1 := hide hB1
  clear hR0 hB1
  simp at hg0
  have hgl : g0 < w1.heap.size := R0.out.1
  go_wp2_with fail
  have A1 := hide (B1.out.setCell (p := ⟨w.heap.size + 1 + 1, 0, none⟩) (by first | (simp; omega) | simp) (.slice (some ⟨g0, 0, none⟩) n0 n0))
  refine (toTargetS_any a1 n1 c1 f1 _ hn1 (HV1.out.below A1.out (Nat.le_refl _)) HM.out).mono ?_
  rintro e w2 ⟨g1, rfl, hR1, hg1, hB2⟩
  have R1 := hide hR1
  obtain ⟨hc2, hz2⟩ := bcell hB2
  have B2 := hide (A1.out.trans (hB2.mono A1.out.size))
  have hs2 : w.heap.size + 1 + 1 < w2.heap.size := by have := hB2.size; simp at this; omega
  have hu2 : w.heap.size + 1 < w2.heap.size := by omega
  have ht2 : w.heap.size < w2.heap.size := by omega
  have D2 := hide hB2
  clear hR1 hB2
  simp at hg1
  have q0 : w2.cell? ⟨w.heap.size + 1, 0, none⟩ = some (.slice none 0 0) := by
    rw [D2.out.cell (p := ⟨w.heap.size + 1, 0, none⟩) (by first | (simp; omega) | simp), cell_far _ _ _ _ (by simp)]
    rw [D1.out.cell (p := ⟨w.heap.size + 1, 0, none⟩) (by first | (simp; omega) | simp)]
    simp [go_sem]
  have q1 : w2.cell? ⟨w.heap.size + 1, 1, none⟩ = some (.slice none 0 0) := by
    rw [D2.out.cell (p := ⟨w.heap.size + 1, 1, none⟩) (by first | (simp; omega) | simp), cell_far _ _ _ _ (by simp)]
    rw [D1.out.cell (p := ⟨w.heap.size + 1, 1, none⟩) (by first | (simp; omega) | simp)]
    simp [go_sem]
  go_wp2
  refine bodyPost_ret (v := .agg #[.slice (some ⟨g0, 0, none⟩) n0 n0, .slice (some ⟨g1, 0, none⟩) n1 n1]) (by simp [results, Tryd.results8, go_sem, q0, q1]) rfl ⟨g0, g1, rfl, ?_, by omega, ?_, by omega, ?_⟩
  · exact ((((R0.out.setOther _ (by first | (simp; omega) | simp) _).below D2.out (Nat.le_refl _)).setOther _ (by first | (simp; omega) | simp) _).setOther _ (by first | (simp; omega) | simp) _).setOther _ (by first | (simp; omega) | simp) _
  · exact ((R1.out.setOther _ (by first | (simp; omega) | simp) _).setOther _ (by first | (simp; omega) | simp) _).setOther _ (by first | (simp; omega) | simp) _
  · exact ((B2.out.setCell (by first | (simp; omega) | simp) _).setCell (by first | (simp; omega) | simp) _).setCell (by first | (simp; omega) | simp) _

set_option maxHeartbeats 1000000 in
theorem eqSpace_any (a0 b0 : Option Addr) (c0 d0 n0 : Nat) (f0 : Nat → Source) (a1 b1 : Option Addr) (c1 d1 n1 : Nat) (f1 : Nat → Target) (w : World) (hn0 : n0 ≤ 1048576) (hn1 : n1 ≤ 1048576) (h0 : SlSource w a0 n0 f0) (h0' : SlSource w b0 n0 f0) (h1 : SlTarget w a1 n1 f1) (h1' : SlTarget w b1 n1 f1) (hm : ∀ i, i < n1 → FitsTarget (f1 i)) :
    Calls Tryd.prog 10 #[.agg #[.slice a0 n0 c0, .slice a1 n1 c1], .agg #[.slice b0 n0 d0, .slice b1 n1 d1]] w fun e w' => e = .returned (.bool true) ∧ Below w.heap.size w w' := by
  have H0 := hide h0
  have H0' := hide h0'
  have H1 := hide h1
  have H1' := hide h1'
  have HM := hide hm
  clear h0 h0' h1 h1' hm
  have A0 := hide (((Below.refl w.heap.size w).alloc (Nat.le_refl _) (.cells #[.slice a0 n0 c0, .slice a1 n1 c1] 30)).alloc (by simp) (.cells #[.slice b0 n0 d0, .slice b1 n1 d1] 30))
  go_enter Tryd.func10, Tryd.ntmps10
  go_wp2_with fail
  refine (eqSourceS_any a0 b0 c0 d0 n0 f0 _ hn0 (H0.out.below A0.out (Nat.le_refl _)) (H0'.out.below A0.out (Nat.le_refl _))).mono ?_
  rintro e w1 ⟨rfl, hB1⟩
  have k0 : w1.cell? ⟨w.heap.size, 1, none⟩ = some (.slice a1 n1 c1) := (hB1.cell (p := ⟨w.heap.size, 1, none⟩) (by first | (simp; done) | (simp; omega))).trans (by simp)
  have k1 : w1.cell? ⟨w.heap.size + 1, 1, none⟩ = some (.slice b1 n1 d1) := (hB1.cell (p := ⟨w.heap.size + 1, 1, none⟩) (by simp)).trans (by simp)
  have B1 := hide (A0.out.trans (hB1.mono (by simp; omega)))
  clear hB1 A0
  go_wp2_with fail
  refine (eqTargetS_any a1 b1 c1 d1 n1 f1 _ hn1 (H1.out.below B1.out (Nat.le_refl _)) (H1'.out.below B1.out (Nat.le_refl _)) HM.out).mono ?_
  rintro e w2 ⟨rfl, hB2⟩
  have B2 := hide (B1.out.trans (hB2.mono B1.out.size))
  clear hB2
  go_wp2
  go_ret
  exact ⟨rfl, B2.out⟩

end Go.Proofs.YthbigpnaepbhjaaDoor.Vp

/-
  Data: rows of texts.
-/
namespace Go.Proofs.YthbigpnaepbhjaaDoor.Vp
open Go.RowKit

/-- A row of n texts in block b, from off on. -/
def RowStr (w : World) (b off n : Nat) (f : Nat → ByteArray) : Prop := b < w.heap.size ∧ ∀ i, i < n → w.cell? ⟨b, off + i, none⟩ = some (.string (f i))
theorem RowStr.below {w w' : World} {B b off n : Nat} {f : Nat → ByteArray} (h : RowStr w b off n f) (hb : Below B w w') (hB : w.heap.size ≤ B) : RowStr w' b off n f :=
  ⟨Nat.lt_of_lt_of_le h.1 hb.size, fun i hi => (hb.cell (p := ⟨b, _, none⟩) (Nat.lt_of_lt_of_le h.1 hB)).trans (h.2 i hi)⟩
theorem RowStr.low {w w' : World} {B b off n : Nat} {f : Nat → ByteArray} (h : RowStr w b off n f) (hb : Below B w w') (hB : b < B) : RowStr w' b off n f :=
  ⟨Nat.lt_of_lt_of_le h.1 hb.size, fun i hi => (hb.cell (p := ⟨b, _, none⟩) hB).trans (h.2 i hi)⟩
theorem RowStr.setOther {w : World} {g n off : Nat} {f : Nat → ByteArray} (h : RowStr w g off n f) (p : Addr) (hp : p.block ≠ g) (v : Value) : RowStr (w.setCell p v) g off n f :=
  ⟨by simpa using h.1, fun i hi => (World.cell?_of_block (w := w) (a := ⟨g, off + i, none⟩) (Below.heap_setCell w p v g (fun e => hp e.symm))).trans (h.2 i hi)⟩
def SlStr (w : World) (a : Option Addr) (n : Nat) (f : Nat → ByteArray) : Prop := n = 0 ∨ ∃ b off, a = some ⟨b, off, none⟩ ∧ RowStr w b off n f
theorem SlStr.below {w w' : World} {B : Nat} {a : Option Addr} {n : Nat} {f : Nat → ByteArray} (h : SlStr w a n f) (hb : Below B w w') (hB : w.heap.size ≤ B) : SlStr w' a n f := by
  rcases h with h | ⟨b, off, hv, hr⟩
  · exact .inl h
  · exact .inr ⟨b, off, hv, hr.below hb hB⟩
theorem RowStr.sl {w : World} {b off n : Nat} {f : Nat → ByteArray} (h : RowStr w b off n f) : SlStr w (some ⟨b, off, none⟩) n f := .inr ⟨b, off, rfl, h⟩
theorem infoString : (Tryd.prog.info? 9).map (fun i => (i.zero, i.size, i.bytes)) = some (some (.string ⟨#[]⟩), 1, 16) := by kernel_rfl

end Go.Proofs.YthbigpnaepbhjaaDoor.Vp

/-
  Names: isName, l1NameOk.
-/
namespace Go.Proofs.YthbigpnaepbhjaaDoor.Vp
open Go.RowKit

/-- The first k bytes may stand in a name. -/
def nameTo (s : ByteArray) : Nat → Bool
  | 0 => true
  | k + 1 => nameTo s k && (match s.data[k]? with | some c => decide (33 ≤ c.toNat ∧ c.toNat ≤ 126) | none => false)
def nameOk (s : ByteArray) : Bool := decide (1 ≤ s.size ∧ s.size ≤ 60) && nameTo s s.size
theorem nameTo_mono {s : ByteArray} {k n : Nat} (h : k ≤ n) (hn : nameTo s n = true) : nameTo s k = true := by
  induction n with
  | zero => obtain rfl : k = 0 := by omega
            exact hn
  | succ m ih =>
    by_cases e : k = m + 1
    · subst e; exact hn
    · simp only [nameTo, Bool.and_eq_true] at hn
      exact ih (by omega) hn.1
theorem nameTo_succ {s : ByteArray} {k : Nat} (h : k < s.size) : nameTo s (k + 1) = (nameTo s k && decide (33 ≤ s[k].toNat ∧ s[k].toNat ≤ 126)) := by
  have e : s.data[k]? = some s[k] := by rw [Array.getElem?_eq_getElem h]; rfl
  rw [nameTo, e]
theorem nameTo_false {s : ByteArray} {k : Nat} (h : k < s.size) (hk : ¬ (33 ≤ s[k].toNat ∧ s[k].toNat ≤ 126)) : nameTo s s.size = false := by
  cases e : nameTo s s.size with
  | false => rfl
  | true =>
    have h2 := nameTo_mono (show k + 1 ≤ s.size by omega) e
    rw [nameTo_succ h] at h2
    simp at h2
    omega

theorem byte_ok {c : UInt8} : (33 ≤ c.toNat ∧ c.toNat ≤ 126) ↔ (33 ≤ (c.toNat : Int) ∧ (c.toNat : Int) ≤ 126) := by omega

set_option maxHeartbeats 1000000 in
theorem isName_any (s : ByteArray) (w : World) : Calls Tryd.prog 50 #[.string s] w fun e w' => e = .returned (.bool (nameOk s)) ∧ Below w.heap.size w w' := by
  by_cases h1 : 1 ≤ (s.size : Int)
  · by_cases h2 : (s.size : Int) ≤ 60
    · have HV : Hid (nameOk s = nameTo s s.size) := by
        show nameOk s = nameTo s s.size
        unfold nameOk
        rw [show decide (1 ≤ s.size ∧ s.size ≤ 60) = true by simp; omega, Bool.true_and]
      go_enter Tryd.func50, Tryd.ntmps50
      go_wp2
      go_loopw [14] (fun i wr => ∃ k : Nat, k ≤ s.size ∧ i = .int .i64 k ∧ nameTo s k = true ∧ Below w.heap.size w wr) (fun i _ => s.size - (intOf i).toNat)
      case atStart => exact ⟨0, by omega, rfl, rfl, Below.refl _ _⟩
      case round =>
        obtain ⟨k, hk, rfl, hok, hB⟩ := hrel
        have HB := hide hB
        have HK := hide hok
        clear hB hok
        by_cases hlt : k < s.size
        · by_cases p1 : 33 ≤ (s[k].toNat : Int)
          · by_cases p2 : (s[k].toNat : Int) ≤ 126
            · go_wp2
              exact ⟨⟨k + 1, by omega, by go_num, by rw [nameTo_succ hlt, HK.out]; simp; omega, HB.out⟩, by simp [intOf]; omega⟩
            · go_wp2
              go_ret
              exact ⟨ret_bool (by rw [HV.out, nameTo_false hlt (by omega)]), HB.out⟩
          · go_wp2
            go_ret
            exact ⟨ret_bool (by rw [HV.out, nameTo_false hlt (by omega)]), HB.out⟩
        · have e : k = s.size := by omega
          subst e
          go_wp2
          go_ret
          exact ⟨ret_bool (by rw [HV.out, HK.out]), HB.out⟩
    · have e : nameOk s = false := by
        unfold nameOk
        rw [show decide (1 ≤ s.size ∧ s.size ≤ 60) = false by simp; omega, Bool.false_and]
      rw [e]
      clear e
      go_enter Tryd.func50, Tryd.ntmps50
      go_wp2
      go_ret
      exact ⟨rfl, Below.refl _ _⟩
  · have e : nameOk s = false := by
      unfold nameOk
      rw [show decide (1 ≤ s.size ∧ s.size ≤ 60) = false by simp; omega, Bool.false_and]
    rw [e]
    clear e
    go_enter Tryd.func50, Tryd.ntmps50
    go_wp2
    go_ret
    exact ⟨rfl, Below.refl _ _⟩

set_option maxHeartbeats 1000000 in
theorem l1NameOk_any (s : ByteArray) (w : World) : Calls Tryd.prog 24 #[.string s] w fun e w' => e = .returned (.bool (nameOk s)) ∧ Below w.heap.size w w' := by
  by_cases h1 : 1 ≤ (s.size : Int)
  · by_cases h2 : (s.size : Int) ≤ 60
    · have HV : Hid (nameOk s = nameTo s s.size) := by
        show nameOk s = nameTo s s.size
        unfold nameOk
        rw [show decide (1 ≤ s.size ∧ s.size ≤ 60) = true by simp; omega, Bool.true_and]
      go_enter Tryd.func24, Tryd.ntmps24
      go_wp2
      go_loopw [3] (fun i wr => ∃ k : Nat, k ≤ s.size ∧ i = .int .i64 k ∧ nameTo s k = true ∧ Below w.heap.size w wr) (fun i _ => s.size - (intOf i).toNat)
      case atStart => exact ⟨0, by omega, rfl, rfl, Below.refl _ _⟩
      case round =>
        obtain ⟨k, hk, rfl, hok, hB⟩ := hrel
        have HB := hide hB
        have HK := hide hok
        clear hB hok
        by_cases hlt : k < s.size
        · by_cases p1 : 33 ≤ (s[k].toNat : Int)
          · by_cases p2 : (s[k].toNat : Int) ≤ 126
            · go_wp2
              exact ⟨⟨k + 1, by omega, by go_num, by rw [nameTo_succ hlt, HK.out]; simp; omega, HB.out⟩, by simp [intOf]; omega⟩
            · go_wp2
              go_ret
              exact ⟨ret_bool (by rw [HV.out, nameTo_false hlt (by omega)]), HB.out⟩
          · go_wp2
            go_ret
            exact ⟨ret_bool (by rw [HV.out, nameTo_false hlt (by omega)]), HB.out⟩
        · have e : k = s.size := by omega
          subst e
          go_wp2
          go_ret
          exact ⟨ret_bool (by rw [HV.out, HK.out]), HB.out⟩
    · have e : nameOk s = false := by
        unfold nameOk
        rw [show decide (1 ≤ s.size ∧ s.size ≤ 60) = false by simp; omega, Bool.false_and]
      rw [e]
      clear e
      go_enter Tryd.func24, Tryd.ntmps24
      go_wp2
      go_ret
      exact ⟨rfl, Below.refl _ _⟩
  · have e : nameOk s = false := by
      unfold nameOk
      rw [show decide (1 ≤ s.size ∧ s.size ≤ 60) = false by simp; omega, Bool.false_and]
    rw [e]
    clear e
    go_enter Tryd.func24, Tryd.ntmps24
    go_wp2
    go_ret
    exact ⟨rfl, Below.refl _ _⟩

end Go.Proofs.YthbigpnaepbhjaaDoor.Vp

/-
  l1Word: the word and the operand's kind of an instruction.
-/
namespace Go.Proofs.YthbigpnaepbhjaaDoor.Vp
open Go.RowKit

/-- The word and the operand's kind of an instruction. -/
def word : Int → List UInt8
  | 1 => [108, 105, 116] | 2 => [99, 97, 116] | 3 => [99, 117, 116] | 4 => [114, 101, 115, 116] | 5 => [119, 111, 114, 100] | 6 => [115, 97, 109, 101] | 7 => [100, 117, 112] | 8 => [115, 119, 97, 112] | 9 => [100, 114, 111, 112]
  | 10 => [106, 117, 109, 112] | 11 => [117, 110, 108, 101, 115, 115] | 12 => [97, 115, 107] | 13 => [104, 97, 115] | 14 => [102, 97, 105, 108] | 15 => [101, 110, 100] | _ => []
def kind : Int → Int
  | 1 => 1 | 3 => 2 | 4 => 2 | 5 => 2 | 10 => 3 | 11 => 3 | _ => 0

set_option maxHeartbeats 1000000 in
theorem l1Word_any (op : Int) (w : World) :
    Calls Tryd.prog 88 #[.int .i64 op] w fun e w' => e = .returned (.tuple #[.string ⟨(word op).toArray⟩, .int .i64 (kind op)]) ∧ w' = w := by
  by_cases h : 1 ≤ op ∧ op ≤ 15
  · have hc : op = 1 ∨ op = 2 ∨ op = 3 ∨ op = 4 ∨ op = 5 ∨ op = 6 ∨ op = 7 ∨ op = 8 ∨ op = 9 ∨ op = 10 ∨ op = 11 ∨ op = 12 ∨ op = 13 ∨ op = 14 ∨ op = 15 := by omega
    clear h
    rcases hc with rfl | rfl | rfl | rfl | rfl | rfl | rfl | rfl | rfl | rfl | rfl | rfl | rfl | rfl | rfl
    all_goals
      go_enter Tryd.func88, Tryd.ntmps88
      go_wp2
      go_ret2
      exact ⟨rfl, rfl⟩
  · have hw : word op = [] := by
      unfold word
      split <;> first | omega | rfl
    have hk : kind op = 0 := by
      unfold kind
      split <;> first | omega | rfl
    rw [hw, hk]
    clear hw hk
    rcases (show op < 1 ∨ 15 < op by omega) with h | h
    all_goals
      go_enter Tryd.func88, Tryd.ntmps88
      go_wp2
      go_ret2
      exact ⟨rfl, rfl⟩

end Go.Proofs.YthbigpnaepbhjaaDoor.Vp

/-
  l1InsOk and validIns: the same test.
-/
namespace Go.Proofs.YthbigpnaepbhjaaDoor.Vp
open Go.RowKit

def mostText (op : Int) : Int := if op = 1 then 2000 else 0
def mostN (op : Int) : Int := if op = 3 ∨ op = 4 ∨ op = 5 then 2000 else if op = 10 ∨ op = 11 then 200 else 0
def insOk (op : Int) (sz : Nat) (n : Int) : Bool := decide (1 ≤ op ∧ op ≤ 15 ∧ (sz : Int) ≤ mostText op ∧ 0 ≤ n ∧ n ≤ mostN op)


set_option maxHeartbeats 1000000 in
theorem l1InsOk_ne (op : Int) (s : ByteArray) (n : Int) (w : World) (hs : s.size ≤ maxLen) (hz : ¬ s.toList = []) (h0 : 0 < s.size) :
    Calls Tryd.prog 68 #[.agg #[.int .i64 op, .string s, .int .i64 n]] w fun e w' => e = .returned (.bool (insOk op s.size n)) ∧ Below w.heap.size w w' := by
  unfold maxLen at hs
  by_cases h : 1 ≤ op ∧ op ≤ 15
  · have hc : op = 1 ∨ op = 2 ∨ op = 3 ∨ op = 4 ∨ op = 5 ∨ op = 6 ∨ op = 7 ∨ op = 8 ∨ op = 9 ∨ op = 10 ∨ op = 11 ∨ op = 12 ∨ op = 13 ∨ op = 14 ∨ op = 15 := by omega
    clear h
    rcases hc with rfl | rfl | rfl | rfl | rfl | rfl | rfl | rfl | rfl | rfl | rfl | rfl | rfl | rfl | rfl
    all_goals
      go_enter Tryd.func68, Tryd.ntmps68
      go_wp2
      all_goals go_ret
      all_goals refine ⟨ret_bool ?_, (Below.refl _ _).alloc (Nat.le_refl _) _⟩
      all_goals (rw [Bool.eq_iff_iff]; generalize s.size = z at *; simp [insOk, mostText, mostN]; try omega)
  · rcases (show op < 1 ∨ 15 < op by omega) with h | h
    all_goals
      go_enter Tryd.func68, Tryd.ntmps68
      go_wp2
      go_ret
      refine ⟨ret_bool ?_, (Below.refl _ _).alloc (Nat.le_refl _) _⟩
      rw [Bool.eq_iff_iff]; simp [insOk]; omega

set_option maxHeartbeats 1000000 in
theorem l1InsOk_em (op : Int) (n : Int) (w : World) :
    Calls Tryd.prog 68 #[.agg #[.int .i64 op, .string ⟨#[]⟩, .int .i64 n]] w fun e w' => e = .returned (.bool (insOk op 0 n)) ∧ Below w.heap.size w w' := by
  by_cases h : 1 ≤ op ∧ op ≤ 15
  · have hc : op = 1 ∨ op = 2 ∨ op = 3 ∨ op = 4 ∨ op = 5 ∨ op = 6 ∨ op = 7 ∨ op = 8 ∨ op = 9 ∨ op = 10 ∨ op = 11 ∨ op = 12 ∨ op = 13 ∨ op = 14 ∨ op = 15 := by omega
    clear h
    rcases hc with rfl | rfl | rfl | rfl | rfl | rfl | rfl | rfl | rfl | rfl | rfl | rfl | rfl | rfl | rfl
    all_goals
      go_enter Tryd.func68, Tryd.ntmps68
      go_wp2
      all_goals go_ret
      all_goals refine ⟨ret_bool ?_, (Below.refl _ _).alloc (Nat.le_refl _) _⟩
      all_goals (rw [Bool.eq_iff_iff]; simp [insOk, mostText, mostN]; try omega)
  · rcases (show op < 1 ∨ 15 < op by omega) with h | h
    all_goals
      go_enter Tryd.func68, Tryd.ntmps68
      go_wp2
      go_ret
      refine ⟨ret_bool ?_, (Below.refl _ _).alloc (Nat.le_refl _) _⟩
      rw [Bool.eq_iff_iff]; simp [insOk]; omega

theorem l1InsOk_any (op : Int) (s : ByteArray) (n : Int) (w : World) (hs : s.size ≤ maxLen) :
    Calls Tryd.prog 68 #[.agg #[.int .i64 op, .string s, .int .i64 n]] w fun e w' => e = .returned (.bool (insOk op s.size n)) ∧ Below w.heap.size w w' := by
  by_cases h : s.size = 0
  · have e := empty_of_size h
    subst e
    exact l1InsOk_em op n w
  · exact l1InsOk_ne op s n w hs (toList_ne h) (by omega)

end Go.Proofs.YthbigpnaepbhjaaDoor.Vp

/-
  validIns: the table's rows.
-/
namespace Go.Proofs.YthbigpnaepbhjaaDoor.Vp
open Go.RowKit

set_option maxHeartbeats 400000 in
theorem validIns_a (k : Nat) (s : ByteArray) (n mt mn : Int) (w : World) (h1 : 1 ≤ (k : Int)) (h2 : (k : Int) ≤ 15)
    (hT : w.cell? ⟨0, k * 5 + 1, none⟩ = some (.int .i64 mt)) (hN : w.cell? ⟨0, k * 5 + 2, none⟩ = some (.int .i64 mn)) (hz : 0 < w.heap.size)
    (ht : (s.size : Int) ≤ mt) (hn : 0 ≤ n) :
    Calls Tryd.prog 70 #[.agg #[.int .i64 k, .string s, .int .i64 n]] w fun e w' => e = .returned (.bool (decide (n ≤ mn))) ∧ Below w.heap.size w w' := by
  go_enter Tryd.func70, Tryd.ntmps70
  go_wp2
  go_quiet (fail)
  go_wp2
  go_ret
  exact ⟨rfl, below_drewN ((Below.refl _ _).alloc (Nat.le_refl _) _) _⟩

set_option maxHeartbeats 400000 in
theorem validIns_b (k : Nat) (s : ByteArray) (n mt : Int) (w : World) (h1 : 1 ≤ (k : Int)) (h2 : (k : Int) ≤ 15)
    (hT : w.cell? ⟨0, k * 5 + 1, none⟩ = some (.int .i64 mt)) (hz : 0 < w.heap.size)
    (ht : (s.size : Int) ≤ mt) (hn : n < 0) :
    Calls Tryd.prog 70 #[.agg #[.int .i64 k, .string s, .int .i64 n]] w fun e w' => e = .returned (.bool false) ∧ Below w.heap.size w w' := by
  have hd : decide (0 ≤ n) = false := by simp; omega
  go_enter Tryd.func70, Tryd.ntmps70
  go_wp2
  go_quiet (fail)
  go_wp2
  go_ret
  exact ⟨rfl, below_drewN ((Below.refl _ _).alloc (Nat.le_refl _) _) _⟩

set_option maxHeartbeats 400000 in
theorem validIns_c (k : Nat) (s : ByteArray) (n mt : Int) (w : World) (h1 : 1 ≤ (k : Int)) (h2 : (k : Int) ≤ 15)
    (hT : w.cell? ⟨0, k * 5 + 1, none⟩ = some (.int .i64 mt)) (hz : 0 < w.heap.size)
    (ht : mt < (s.size : Int)) :
    Calls Tryd.prog 70 #[.agg #[.int .i64 k, .string s, .int .i64 n]] w fun e w' => e = .returned (.bool false) ∧ Below w.heap.size w w' := by
  have hd : decide ((s.size : Int) ≤ mt) = false := by simp; omega
  go_enter Tryd.func70, Tryd.ntmps70
  go_wp2
  go_quiet (fail)
  go_wp2
  go_ret
  exact ⟨rfl, below_drewN ((Below.refl _ _).alloc (Nat.le_refl _) _) _⟩

set_option maxHeartbeats 400000 in
theorem validIns_d (op : Int) (s : ByteArray) (n : Int) (w : World) (h : op < 1 ∨ 15 < op) :
    Calls Tryd.prog 70 #[.agg #[.int .i64 op, .string s, .int .i64 n]] w fun e w' => e = .returned (.bool false) ∧ Below w.heap.size w w' := by
  rcases h with h | h
  all_goals
    go_enter Tryd.func70, Tryd.ntmps70
    go_wp2
    go_ret
    exact ⟨rfl, (Below.refl _ _).alloc (Nat.le_refl _) _⟩

/-- The table, as far as it is read: the bounds of each operation's operands. -/
def Tab (w : World) : Prop := 0 < w.heap.size ∧ ∀ k : Nat, k < 16 → w.cell? ⟨0, k * 5 + 1, none⟩ = some (.int .i64 (mostText k)) ∧ w.cell? ⟨0, k * 5 + 2, none⟩ = some (.int .i64 (mostN k))

theorem validIns_any (op : Int) (s : ByteArray) (n : Int) (w : World) (hT : Tab w) :
    Calls Tryd.prog 70 #[.agg #[.int .i64 op, .string s, .int .i64 n]] w fun e w' => e = .returned (.bool (insOk op s.size n)) ∧ Below w.heap.size w w' := by
  by_cases h : 1 ≤ op ∧ op ≤ 15
  · obtain ⟨k, rfl⟩ := Int.eq_ofNat_of_zero_le (show 0 ≤ op by omega)
    obtain ⟨h1, h2⟩ := h
    obtain ⟨t1, t2⟩ := hT.2 k (by omega)
    by_cases ht : (s.size : Int) ≤ mostText k
    · by_cases hn : 0 ≤ n
      · have e : insOk (k : Int) s.size n = decide (n ≤ mostN k) := by
          unfold insOk
          rw [Bool.eq_iff_iff, decide_eq_true_eq, decide_eq_true_eq]
          exact ⟨fun h => h.2.2.2.2, fun h => ⟨h1, h2, ht, hn, h⟩⟩
        rw [e]
        exact validIns_a k s n _ _ w h1 h2 t1 t2 hT.1 ht hn
      · have e : insOk (k : Int) s.size n = false := by
          unfold insOk
          rw [decide_eq_false_iff_not]
          exact fun h => hn h.2.2.2.1
        rw [e]
        exact validIns_b k s n _ w h1 h2 t1 hT.1 ht (by omega)
    · have e : insOk (k : Int) s.size n = false := by
        unfold insOk
        rw [decide_eq_false_iff_not]
        exact fun h => ht h.2.2.1
      rw [e]
      exact validIns_c k s n _ w h1 h2 t1 hT.1 (by omega)
  · have e : insOk op s.size n = false := by
      unfold insOk
      rw [decide_eq_false_iff_not]
      exact fun g => h ⟨g.1, g.2.1⟩
    rw [e]
    exact validIns_d op s n w (by omega)

end Go.Proofs.YthbigpnaepbhjaaDoor.Vp

/-
  The two ValidProgram: one answer.
-/
namespace Go.Proofs.YthbigpnaepbhjaaDoor.Vp
open Go.RowKit

/-- The first k instructions are right. -/
def okTo (f : Nat → Ins) : Nat → Bool
  | 0 => true
  | k + 1 => okTo f k && insOk (f k).op (f k).s.size (f k).n
theorem okTo_mono {f : Nat → Ins} {k n : Nat} (h : k ≤ n) (hn : okTo f n = true) : okTo f k = true := by
  induction n with
  | zero => obtain rfl : k = 0 := by omega
            exact hn
  | succ m ih =>
    by_cases e : k = m + 1
    · subst e; exact hn
    · simp only [okTo, Bool.and_eq_true] at hn
      exact ih (by omega) hn.1
theorem okTo_false {f : Nat → Ins} {k n : Nat} (h : k < n) (hk : insOk (f k).op (f k).s.size (f k).n = false) : okTo f n = false := by
  cases e : okTo f n with
  | false => rfl
  | true =>
    have h2 := okTo_mono (show k + 1 ≤ n by omega) e
    simp [okTo, hk] at h2
def valid (f : Nat → Ins) (n : Nat) : Bool := okTo f n && decide (1 ≤ (n : Int) ∧ (n : Int) ≤ 200)

theorem valid_parts {f : Nat → Ins} {n : Nat} (h : valid f n = true) : okTo f n = true ∧ 1 ≤ (n : Int) ∧ (n : Int) ≤ 200 := by
  unfold valid at h
  rw [Bool.and_eq_true, decide_eq_true_eq] at h
  exact h
theorem ok_at {f : Nat → Ins} {k n : Nat} (h : okTo f n = true) (hk : k < n) : insOk (f k).op (f k).s.size (f k).n = true := by
  have := okTo_mono (show k + 1 ≤ n by omega) h
  simp only [okTo, Bool.and_eq_true] at this
  exact this.2

set_option maxHeartbeats 1000000 in
theorem specValid_row (b off n cap : Nat) (f : Nat → Ins) (w : World) (hn : n ≤ 1048576) (hb : b < w.heap.size) (hf : ∀ i, i < n → AtIns w b off i (f i)) (hs : ∀ i, i < n → (f i).s.size ≤ maxLen) :
    Calls Tryd.prog 38 #[.agg #[.slice (some ⟨b, off, none⟩) n cap]] w fun e w' => e = .returned (.bool (valid f n)) ∧ Below w.heap.size w w' := by
  have HF := hide hf
  have HS := hide hs
  clear hf hs
  go_enter Tryd.func38, Tryd.ntmps38
  go_wp2
  go_loopw [3] (fun i wr => ∃ k : Nat, k ≤ n ∧ i = .int .i64 k ∧ okTo f k = true ∧ Below (w.heap.size + 1) (w.alloc (.cells #[.slice (some ⟨b, off, none⟩) n cap] 44)) wr) (fun i _ => n - (intOf i).toNat)
  case atStart => exact ⟨0, by omega, rfl, rfl, Below.refl _ _⟩
  case round =>
    obtain ⟨k, hk, rfl, hok, hB⟩ := hrel
    have HB := hide hB
    have HK := hide hok
    have hc0 : wr.cell? ⟨w.heap.size, 0, none⟩ = some (.slice (some ⟨b, off, none⟩) n cap) := by
      rw [hB.cell (p := ⟨w.heap.size, 0, none⟩) (by simp)]; simp
    have HW : Hid (Below w.heap.size w wr) := ((Below.refl _ _).alloc (Nat.le_refl _) _).trans (hB.mono (by omega))
    have hsz : w.heap.size + 1 ≤ wr.heap.size := by have := hB.size; simpa using this
    clear hB hok
    by_cases hlt : k < n
    · obtain ⟨c0, c1, c2⟩ := (HF.out k hlt).below HW.out hb
      go_wp2_with fail
      refine (l1InsOk_any _ _ _ _ (HS.out k hlt)).mono ?_
      rintro e w' ⟨rfl, hB'⟩
      have HB' := hide hB'
      clear hB' c0 c1 c2 hc0
      cases hi : insOk (f k).op (f k).s.size (f k).n with
      | false =>
        have HI := hide hi
        clear hi
        go_wp2
        go_ret
        refine ⟨ret_bool ?_, HW.out.trans (HB'.out.mono HW.out.size)⟩
        simp [valid, okTo_false hlt HI.out]
      | true =>
        have HI := hide hi
        clear hi
        go_wp2
        exact ⟨⟨k + 1, by omega, by go_num, by simp [okTo, HK.out, HI.out], HB.out.trans (HB'.out.mono hsz)⟩, by simp [intOf]; omega⟩
    · have e : k = n := by omega
      subst e
      by_cases h1 : 1 ≤ (k : Int)
      all_goals
        go_wp2
        go_ret
        refine ⟨ret_bool ?_, HW.out⟩
        rw [Bool.eq_iff_iff]
        simp [valid, HK.out]
        try omega

end Go.Proofs.YthbigpnaepbhjaaDoor.Vp

/-
  impl.ValidProgram; eqInsS, eqProgram over two rows of the same instructions.
-/
namespace Go.Proofs.YthbigpnaepbhjaaDoor.Vp
open Go.RowKit

theorem Tab.below {w w' : World} {B : Nat} (h : Tab w) (hb : Below B w w') (hB : 0 < B) : Tab w' :=
  ⟨Nat.lt_of_lt_of_le h.1 hb.size, fun k hk => ⟨(hb.cell (p := ⟨0, _, none⟩) hB).trans (h.2 k hk).1, (hb.cell (p := ⟨0, _, none⟩) hB).trans (h.2 k hk).2⟩⟩

set_option maxHeartbeats 1000000 in
theorem implValid_no (a : Option Addr) (n cap : Nat) (f : Nat → Ins) (w : World) (hn : n ≤ 1048576) (h : (n : Int) < 1 ∨ 200 < (n : Int)) :
    Calls Tryd.prog 41 #[.agg #[.slice a n cap]] w fun e w' => e = .returned (.bool (valid f n)) ∧ Below w.heap.size w w' := by
  have e : valid f n = false := by
    unfold valid
    rw [show decide (1 ≤ (n : Int) ∧ (n : Int) ≤ 200) = false by simp; omega, Bool.and_false]
  rw [e]
  clear e
  rcases h with h | h
  all_goals
    go_enter Tryd.func41, Tryd.ntmps41
    go_wp2
    go_ret
    exact ⟨rfl, (Below.refl _ _).alloc (Nat.le_refl _) _⟩

set_option maxHeartbeats 1000000 in
theorem implValid_row (b off n cap : Nat) (f : Nat → Ins) (w : World) (h1 : 1 ≤ (n : Int)) (h2 : (n : Int) ≤ 200) (hb : b < w.heap.size) (hf : ∀ i, i < n → AtIns w b off i (f i)) (hT : Tab w) :
    Calls Tryd.prog 41 #[.agg #[.slice (some ⟨b, off, none⟩) n cap]] w fun e w' => e = .returned (.bool (valid f n)) ∧ Below w.heap.size w w' := by
  have HF := hide hf
  have HT := hide hT
  have hT0 := hT.1
  have HV : Hid (valid f n = okTo f n) := by
    show valid f n = okTo f n
    unfold valid
    rw [show decide (1 ≤ (n : Int) ∧ (n : Int) ≤ 200) = true by simp; omega, Bool.and_true]
  clear hf hT
  go_enter Tryd.func41, Tryd.ntmps41
  go_wp2
  go_loopw [18] (fun i wr => ∃ k : Nat, k ≤ n ∧ i = .int .i64 k ∧ okTo f k = true ∧ Below w.heap.size w wr) (fun i _ => n - (intOf i).toNat)
  case atStart => exact ⟨0, by omega, rfl, rfl, (Below.refl _ _).alloc (Nat.le_refl _) _⟩
  case round =>
    obtain ⟨k, hk, rfl, hok, hB⟩ := hrel
    have HB := hide hB
    have HK := hide hok
    have hsz : w.heap.size ≤ wr.heap.size := hB.size
    clear hB hok
    by_cases hlt : k < n
    · obtain ⟨c0, c1, c2⟩ := (HF.out k hlt).below HB.out hb
      go_wp2_with fail
      refine (validIns_any _ _ _ _ (HT.out.below (HB.out.alloc hsz _) hT0)).mono ?_
      rintro e w' ⟨rfl, hB'⟩
      have HB' : Hid (Below w.heap.size w w') := (HB.out.alloc hsz _).trans (hB'.mono (by simp; omega))
      clear hB' c0 c1 c2
      cases hi : insOk (f k).op (f k).s.size (f k).n with
      | false =>
        have HI := hide hi
        clear hi
        go_wp2
        go_ret
        refine ⟨ret_bool ?_, HB'.out⟩
        rw [HV.out, okTo_false hlt HI.out]
      | true =>
        have HI := hide hi
        clear hi
        go_wp2
        exact ⟨⟨k + 1, by omega, by go_num, by simp [okTo, HK.out, HI.out], HB'.out⟩, by simp [intOf]; omega⟩
    · have e : k = n := by omega
      subst e
      go_wp2
      go_ret
      exact ⟨ret_bool (by rw [HV.out, HK.out]), HB.out⟩

theorem implValid_any (b off n cap : Nat) (f : Nat → Ins) (w : World) (hn : n ≤ 1048576) (hb : b < w.heap.size) (hf : ∀ i, i < n → AtIns w b off i (f i)) (hT : Tab w) :
    Calls Tryd.prog 41 #[.agg #[.slice (some ⟨b, off, none⟩) n cap]] w fun e w' => e = .returned (.bool (valid f n)) ∧ Below w.heap.size w w' := by
  by_cases h : (n : Int) < 1 ∨ 200 < (n : Int)
  · exact implValid_no _ n cap f w hn h
  · exact implValid_row b off n cap f w (by omega) (by omega) hb hf hT

end Go.Proofs.YthbigpnaepbhjaaDoor.Vp

/-
  ValidProgram of a program that may have no instruction.
-/
namespace Go.Proofs.YthbigpnaepbhjaaDoor.Vp
open Go.RowKit

theorem valid_zero (f : Nat → Ins) : valid f 0 = false := by simp [valid]
theorem implValid_sl (a : Option Addr) (n cap : Nat) (f : Nat → Ins) (w : World) (hn : n ≤ 1048576) (hv : SlIns w a n f) (hT : Tab w) :
    Calls Tryd.prog 41 #[.agg #[.slice a n cap]] w fun e w' => e = .returned (.bool (valid f n)) ∧ Below w.heap.size w w' := by
  rcases hv with rfl | ⟨b, off, rfl, hr⟩
  · exact implValid_no a 0 cap f w (by omega) (by simp)
  · exact implValid_any b off n cap f w hn hr.1 hr.2 hT
set_option maxHeartbeats 1000000 in
theorem specValid_nil (a : Option Addr) (cap : Nat) (f : Nat → Ins) (w : World) : Calls Tryd.prog 38 #[.agg #[.slice a 0 cap]] w fun e w' => e = .returned (.bool (valid f 0)) ∧ Below w.heap.size w w' := by
  rw [valid_zero]
  have A0 := hide ((Below.refl w.heap.size w).alloc (Nat.le_refl _) (.cells #[.slice a 0 cap] 44))
  go_enter Tryd.func38, Tryd.ntmps38
  go_wp2
  go_loop [3] (fun i => i = .int .i64 0) (fun _ => 0)
  case atStart => rfl
  case round =>
    subst hrel
    go_wp2
    go_ret
    exact ⟨rfl, A0.out⟩
theorem specValid_sl (a : Option Addr) (n cap : Nat) (f : Nat → Ins) (w : World) (hn : n ≤ 1048576) (hv : SlIns w a n f) (hs : ∀ i, i < n → (f i).s.size ≤ maxLen) :
    Calls Tryd.prog 38 #[.agg #[.slice a n cap]] w fun e w' => e = .returned (.bool (valid f n)) ∧ Below w.heap.size w w' := by
  rcases hv with rfl | ⟨b, off, rfl, hr⟩
  · exact specValid_nil a cap f w
  · exact specValid_row b off n cap f w hn hr.1 hr.2 hs

end Go.Proofs.YthbigpnaepbhjaaDoor.Vp
