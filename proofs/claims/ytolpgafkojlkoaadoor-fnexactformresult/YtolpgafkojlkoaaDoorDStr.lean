/-
  Data: rows of texts: sizes, copies, comparisons.
-/
import Derived.Test.YtolpgafkojlkoaaDoorDEqStr
namespace Go.Proofs.YtolpgafkojlkoaaDoor.Vp
open Go.RowKit

set_option maxHeartbeats 400000 in
theorem szStringS_big (a : Option Addr) (n cap : Nat) (left : Int) (w : World) (h0 : 0 ≤ left) (h1 : left ≤ 1048576) (hn : (n : Int) ≤ 9223372036854775807) (h : left < (n : Int)) :
    Calls Tryd.prog 30 #[.slice a n cap, .int .i64 left] w fun e w' => e = .returned (.int .i64 (-1)) ∧ w' = w := by
  go_enter Tryd.func30, Tryd.ntmps30
  go_wp2
  go_ret
  exact ⟨rfl, rfl⟩

set_option maxHeartbeats 1000000 in
theorem szStringS_row (b off n cap : Nat) (f : Nat → ByteArray) (left : Int) (w : World) (h0 : (n : Int) ≤ left) (h1 : left ≤ 1048576) (hf : RowStr w b off n f) (hs : ∀ i, i < n → (f i).size ≤ maxLen) :
    Calls Tryd.prog 30 #[.slice (some ⟨b, off, none⟩) n cap, .int .i64 left] w fun e w' => ∃ r : Int, e = .returned (.int .i64 r) ∧ -1 ≤ r ∧ r ≤ left ∧ Below w.heap.size w w' := by
  have HF := hide hf
  have HS := hide hs
  clear hf hs
  go_enter Tryd.func30, Tryd.ntmps30
  go_wp2
  go_loopw [1, 5] (fun l i wr => ∃ k : Nat, ∃ r : Int, k ≤ n ∧ 0 ≤ r ∧ r ≤ left ∧ i = .int .i64 k ∧ l = .int .i64 r ∧ Below w.heap.size w wr) (fun _ i _ => n - (intOf i).toNat)
  case atStart => exact ⟨0, left - n, by omega, by omega, by omega, rfl, rfl, Below.refl _ _⟩
  case round =>
    obtain ⟨k, r, hk, hr0, hr1, rfl, rfl, hB⟩ := hrel
    by_cases hlt : k < n
    · have c0 := (HF.out.below hB (Nat.le_refl _)).2 k hlt
      have hl := HS.out k hlt
      unfold maxLen at hl
      go_wp2
      · go_ret
        exact ⟨-1, rfl, by omega, by omega, hB⟩
      · exact ⟨⟨k + 1, _, by omega, by omega, by omega, by go_num, rfl, hB⟩, by simp [intOf]; omega⟩
    · go_wp2
      go_ret
      exact ⟨r, rfl, by omega, by omega, hB⟩

set_option maxHeartbeats 400000 in
theorem szStringS_nil (a : Option Addr) (cap : Nat) (left : Int) (w : World) (h0 : 0 ≤ left) (h1 : left ≤ 1048576) :
    Calls Tryd.prog 30 #[.slice a 0 cap, .int .i64 left] w fun e w' => e = .returned (.int .i64 left) ∧ w' = w := by
  go_enter Tryd.func30, Tryd.ntmps30
  go_wp2
  go_loop [1, 5] (fun l i => l = .int .i64 left ∧ i = .int .i64 0) (fun _ _ => 0)
  case atStart => exact ⟨by simp, rfl⟩
  case round =>
    obtain ⟨rfl, rfl⟩ := hrel
    go_wp2
    go_ret
    exact ⟨rfl, rfl⟩

theorem szStringS_any (a : Option Addr) (n cap : Nat) (f : Nat → ByteArray) (left : Int) (w : World) (h0 : 0 ≤ left) (h1 : left ≤ 1048576) (hn : (n : Int) ≤ 9223372036854775807) (hv : SlStr w a n f) (hs : ∀ i, i < n → (f i).size ≤ maxLen) :
    Calls Tryd.prog 30 #[.slice a n cap, .int .i64 left] w fun e w' => ∃ r : Int, e = .returned (.int .i64 r) ∧ -1 ≤ r ∧ r ≤ left ∧ (0 ≤ r → (n : Int) ≤ left) ∧ Below w.heap.size w w' := by
  rcases hv with rfl | ⟨b, off, rfl, hr⟩
  · exact (szStringS_nil a cap left w h0 h1).mono fun e w' ⟨a, b⟩ => ⟨_, a, by omega, by omega, fun _ => by omega, by rw [b]; exact Below.refl _ _⟩
  · by_cases h : (n : Int) ≤ left
    · exact (szStringS_row b off n cap f left w h h1 hr hs).mono fun e w' ⟨r, a, b, c, d⟩ => ⟨r, a, b, c, fun _ => h, d⟩
    · exact (szStringS_big _ n cap left w h0 h1 hn (by omega)).mono fun e w' ⟨a, b⟩ => ⟨_, a, by omega, by omega, fun _ => by omega, by rw [b]; exact Below.refl _ _⟩

def zerosString (n : Nat) : Array Value := madeCells (Value.string ⟨#[]⟩).cells n
theorem mkString (n : Nat) (hn : n ≤ 1048576) (w : World) : (Instr.makeSlice 22 (.int .i64 (n : Int)) (.int .i64 (n : Int))).run Tryd.prog w = .ok (.slice (some ⟨w.heap.size, 0, none⟩) n n) (w.alloc (.cells (zerosString n) 9)) := by
  obtain ⟨i, hi, hz⟩ := Option.map_eq_some_iff.1 infoString
  simp only [Prod.mk.injEq] at hz
  obtain ⟨h1, h2, h3⟩ := hz
  have h := run_make (P := Tryd.prog) w 22 9 i _ Tryd.underlying22 hi h1 .i64 .i64 n n (by omega) (Int.le_refl _) (by rw [h3]; omega) (by omega)
  rw [h2] at h
  simpa [zerosString] using h

/-- Block g is a row of n texts; the first k are those of f. -/
def OwnStr (w : World) (g n k : Nat) (f : Nat → ByteArray) : Prop := ∃ F, w.rowIs g 9 n F ∧ ∀ i, i < k → F i = .string (f i)
theorem ownStr_start (w : World) (n : Nat) (f : Nat → ByteArray) : OwnStr (w.alloc (.cells (zerosString n) 9)) w.heap.size n 0 f := by
  have hz : (zerosString n).size = n := size_madeCells _ _
  have h := World.rowIs_alloc w (zerosString n) 9 (fun i => (zerosString n)[i]?.getD undef) (fun i hi => by rw [Array.getElem?_eq_getElem hi]; rfl)
  rw [hz] at h
  exact ⟨_, h, fun i hi => absurd hi (Nat.not_lt_zero _)⟩
theorem OwnStr.step {w : World} {g n k : Nat} {f : Nat → ByteArray} (h : OwnStr w g n k f) : OwnStr (w.setCell ⟨g, k, none⟩ (.string (f k))) g n (k + 1) f := by
  obtain ⟨F, hr, hF⟩ := h
  refine ⟨_, hr.set _ _, fun i hi => ?_⟩
  by_cases e : i = k
  · subst e
    simp
  · show (if _ then _ else _) = _
    rw [if_neg (by omega), hF i (by omega)]
theorem OwnStr.below {w w' : World} {g n k : Nat} {f : Nat → ByteArray} {B : Nat} (h : OwnStr w g n k f) (hb : Below B w w') (hB : g < B) : OwnStr w' g n k f := by
  obtain ⟨F, hr, hF⟩ := h
  exact ⟨F, hr.of_block (hb.block g hB), hF⟩
theorem OwnStr.row {w : World} {g n : Nat} {f : Nat → ByteArray} (h : OwnStr w g n n f) : RowStr w g 0 n f := by
  obtain ⟨F, hr, hF⟩ := h
  exact ⟨hr.lt, fun i hi => by rw [Nat.zero_add, hr.cell hi, hF i hi]⟩

set_option maxHeartbeats 1000000 in
theorem toStringS_row (b off n cap : Nat) (f : Nat → ByteArray) (w : World) (hn : n ≤ 1048576) (hf : RowStr w b off n f) :
    Calls Tryd.prog 32 #[.slice (some ⟨b, off, none⟩) n cap] w fun e w' => ∃ g, e = .returned (.slice (some ⟨g, 0, none⟩) n n) ∧ RowStr w' g 0 n f ∧ w.heap.size ≤ g ∧ Below w.heap.size w w' := by
  have HF := hide hf
  clear hf
  have hmk := mkString n hn
  go_enter Tryd.func32, Tryd.ntmps32
  go_wp2
  clear hmk
  go_loopw [4] (fun i wr => ∃ k : Nat, k ≤ n ∧ i = .int .i64 k ∧ OwnStr wr w.heap.size n k f ∧ Below w.heap.size w wr) (fun i _ => n - (intOf i).toNat)
  case atStart => exact ⟨0, by omega, rfl, ownStr_start w n f, (Below.refl _ _).alloc (Nat.le_refl _) _⟩
  case round =>
    obtain ⟨k, hk, rfl, hO, hB⟩ := hrel
    have HO := hide hO
    by_cases hlt : k < n
    · have c0 := (HF.out.below hB (Nat.le_refl _)).2 k hlt
      obtain ⟨F, hr, _⟩ := HO.out
      have d0 := hr.cell (i := k) (by omega)
      have z0 := hr.frozen k
      clear hO hr
      go_wp2
      exact ⟨⟨k + 1, by omega, by go_num, HO.out.step, hB.setCell (Nat.le_refl _) _⟩, by simp [intOf]; omega⟩
    · have e : k = n := by omega
      subst e
      clear hO
      go_wp2
      go_ret
      exact ⟨_, rfl, HO.out.row, Nat.le_refl _, hB⟩

set_option maxHeartbeats 1000000 in
theorem toStringS_nil (a : Option Addr) (cap : Nat) (f : Nat → ByteArray) (w : World) :
    Calls Tryd.prog 32 #[.slice a 0 cap] w fun e w' => ∃ g, e = .returned (.slice (some ⟨g, 0, none⟩) 0 0) ∧ RowStr w' g 0 0 f ∧ w.heap.size ≤ g ∧ Below w.heap.size w w' := by
  have hmk : ∀ w : World, (Instr.makeSlice 22 (.int .i64 0) (.int .i64 0)).run Tryd.prog w = .ok (.slice (some ⟨w.heap.size, 0, none⟩) 0 0) (w.alloc (.cells (zerosString 0) 9)) := fun w => mkString 0 (by omega) w
  go_enter Tryd.func32, Tryd.ntmps32
  go_wp2
  clear hmk
  go_loop [4] (fun i => i = .int .i64 0) (fun _ => 0)
  case atStart => rfl
  case round =>
    subst hrel
    go_wp2
    go_ret
    exact ⟨_, rfl, (ownStr_start w 0 f).row, Nat.le_refl _, (Below.refl _ _).alloc (Nat.le_refl _) _⟩

theorem toStringS_any (a : Option Addr) (n cap : Nat) (f : Nat → ByteArray) (w : World) (hn : n ≤ 1048576) (hv : SlStr w a n f) :
    Calls Tryd.prog 32 #[.slice a n cap] w fun e w' => ∃ g, e = .returned (.slice (some ⟨g, 0, none⟩) n n) ∧ RowStr w' g 0 n f ∧ w.heap.size ≤ g ∧ Below w.heap.size w w' := by
  rcases hv with rfl | ⟨b, off, rfl, hr⟩
  · exact toStringS_nil a cap f w
  · exact toStringS_row b off n cap f w hn hr

end Go.Proofs.YtolpgafkojlkoaaDoor.Vp
