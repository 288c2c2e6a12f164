/-
  Data: Ins: sizes, copies, comparisons. Written by tools/flat.py.
-/
import Derived.Test.YtolpgafkojlkoabDoorDInsB
import Derived.Test.YtolpgafkojlkoabDoorDBase
namespace Go.Proofs.YtolpgafkojlkoabDoor.Vp
open Go.RowKit

set_option maxHeartbeats 400000 in
theorem szIns_any (op : Int) (s : ByteArray) (n : Int) (left : Int) (w : World) (hss : s.size ≤ maxLen) (l0 : 0 ≤ left) (l1 : left ≤ 1048576) :
    Calls Tryd.prog 49 #[.agg #[.int .i64 op, .string s, .int .i64 n], .int .i64 left] w fun e w' => ∃ r : Int, e = .returned (.int .i64 r) ∧ -1 ≤ r ∧ r ≤ left ∧ Below w.heap.size w w' := by
  unfold maxLen at hss
  go_enter Tryd.func49, Tryd.ntmps49
  go_wp2
  all_goals go_ret
  all_goals first
    | exact ⟨-1, rfl, by omega, by omega, (Below.refl _ _).alloc (Nat.le_refl _) _⟩
    | exact ⟨_, rfl, by omega, by omega, (Below.refl _ _).alloc (Nat.le_refl _) _⟩

set_option maxHeartbeats 400000 in
theorem szInsS_big (a : Option Addr) (n cap : Nat) (left : Int) (w : World) (h0 : 0 ≤ left) (h1 : left ≤ 1048576) (hn : (n : Int) ≤ 9223372036854775807) (h : left < (n : Int)) :
    Calls Tryd.prog 40 #[.slice a n cap, .int .i64 left] w fun e w' => e = .returned (.int .i64 (-1)) ∧ w' = w := by
  go_enter Tryd.func40, Tryd.ntmps40
  go_wp2
  go_ret
  exact ⟨rfl, rfl⟩

set_option maxHeartbeats 1000000 in
theorem szInsS_row (b off n cap : Nat) (f : Nat → Ins) (left : Int) (w : World) (h0 : (n : Int) ≤ left) (h1 : left ≤ 1048576) (hb : b < w.heap.size) (hf : ∀ i, i < n → AtIns w b off i (f i)) (hs : ∀ i, i < n → (f i).s.size ≤ maxLen) :
    Calls Tryd.prog 40 #[.slice (some ⟨b, off, none⟩) n cap, .int .i64 left] w fun e w' => ∃ r : Int, e = .returned (.int .i64 r) ∧ -1 ≤ r ∧ r ≤ left ∧ Below w.heap.size w w' := by
  have HF := hide hf
  have HS := hide hs
  clear hf hs
  go_enter Tryd.func40, Tryd.ntmps40
  go_wp2
  go_loopw [1, 5] (fun l i wr => ∃ k : Nat, ∃ r : Int, k ≤ n ∧ 0 ≤ r ∧ r ≤ left ∧ i = .int .i64 k ∧ l = .int .i64 r ∧ Below w.heap.size w wr) (fun _ i _ => n - (intOf i).toNat)
  case atStart => exact ⟨0, left - n, by omega, by omega, by omega, rfl, rfl, Below.refl _ _⟩
  case round =>
    obtain ⟨k, r, hk, hr0, hr1, rfl, rfl, hB⟩ := hrel
    by_cases hlt : k < n
    · obtain ⟨c0, c1, c2⟩ := (HF k hlt).below hB hb
      go_wp2_with (go_at_call 49; refine (szIns_any _ _ _ _ _ (HS k hlt) (by omega) (by omega)).mono ?_; rintro e w' ⟨r', rfl, hr2, hr3, hB'⟩)
      · go_ret
        exact ⟨-1, rfl, by omega, by omega, hB.trans (hB'.mono hB.size)⟩
      · exact ⟨⟨k + 1, r', by omega, by omega, by omega, by go_num, rfl, hB.trans (hB'.mono hB.size)⟩, by simp [intOf]; omega⟩
    · go_wp2
      go_ret
      exact ⟨r, rfl, by omega, by omega, hB⟩

set_option maxHeartbeats 400000 in
theorem szInsS_nil (a : Option Addr) (cap : Nat) (left : Int) (w : World) (h0 : 0 ≤ left) (h1 : left ≤ 1048576) :
    Calls Tryd.prog 40 #[.slice a 0 cap, .int .i64 left] w fun e w' => e = .returned (.int .i64 left) ∧ w' = w := by
  go_enter Tryd.func40, Tryd.ntmps40
  go_wp2
  go_loop [1, 5] (fun l i => l = .int .i64 left ∧ i = .int .i64 0) (fun _ _ => 0)
  case atStart => exact ⟨by simp, rfl⟩
  case round =>
    obtain ⟨rfl, rfl⟩ := hrel
    go_wp2
    go_ret
    exact ⟨rfl, rfl⟩

theorem szInsS_any (a : Option Addr) (n cap : Nat) (f : Nat → Ins) (left : Int) (w : World) (h0 : 0 ≤ left) (h1 : left ≤ 1048576) (hn : (n : Int) ≤ 9223372036854775807) (hv : SlIns w a n f) (hs : ∀ i, i < n → (f i).s.size ≤ maxLen) :
    Calls Tryd.prog 40 #[.slice a n cap, .int .i64 left] w fun e w' => ∃ r : Int, e = .returned (.int .i64 r) ∧ -1 ≤ r ∧ r ≤ left ∧ (0 ≤ r → (n : Int) ≤ left) ∧ Below w.heap.size w w' := by
  rcases hv with rfl | ⟨b, off, rfl, hl, hc⟩
  · exact (szInsS_nil a cap left w h0 h1).mono fun e w' ⟨a, b⟩ => ⟨_, a, by omega, by omega, fun _ => by omega, by rw [b]; exact Below.refl _ _⟩
  · by_cases h : (n : Int) ≤ left
    · exact (szInsS_row b off n cap f left w h h1 hl hc hs).mono fun e w' ⟨r, a, b, c, d⟩ => ⟨r, a, b, c, fun _ => h, d⟩
    · exact (szInsS_big _ n cap left w h0 h1 hn (by omega)).mono fun e w' ⟨a, b⟩ => ⟨_, a, by omega, by omega, fun _ => by omega, by rw [b]; exact Below.refl _ _⟩

set_option maxHeartbeats 400000 in
theorem toIns_any (op : Int) (s : ByteArray) (n : Int) (w : World) :
    Calls Tryd.prog 51 #[.agg #[.int .i64 op, .string s, .int .i64 n]] w fun e w' => e = .returned (.agg #[.int .i64 op, .string s, .int .i64 n]) ∧ Below w.heap.size w w' := by
  go_enter Tryd.func51, Tryd.ntmps51
  go_wp2
  refine bodyPost_ret (v := .agg #[.int .i64 op, .string s, .int .i64 n]) (by simp [results, Tryd.results51, go_sem]) rfl ⟨rfl, ?_⟩
  exact (((Below.refl _ _).alloc (Nat.le_refl _) _).alloc (by simp) _).alloc (by simp; omega) _

set_option maxHeartbeats 1000000 in
theorem toInsS_row (b off n cap : Nat) (f : Nat → Ins) (w : World) (hn : n ≤ 1048576) (hb : b < w.heap.size) (hf : ∀ i, i < n → AtIns w b off i (f i)) :
    Calls Tryd.prog 43 #[.slice (some ⟨b, off, none⟩) n cap] w fun e w' => ∃ g, e = .returned (.slice (some ⟨g, 0, none⟩) n n) ∧ RowIns w' g 0 n f ∧ w.heap.size ≤ g ∧ Below w.heap.size w w' := by
  have HF := hide hf
  clear hf
  have hmk := mkIns n hn
  go_enter Tryd.func43, Tryd.ntmps43
  go_wp2
  clear hmk
  go_loopw [4] (fun i wr => ∃ k : Nat, k ≤ n ∧ i = .int .i64 k ∧ OwnIns wr w.heap.size n k f ∧ Below w.heap.size w wr) (fun i _ => n - (intOf i).toNat)
  case atStart => exact ⟨0, by omega, rfl, ownIns_start w n f, (Below.refl _ _).alloc (Nat.le_refl _) _⟩
  case round =>
    obtain ⟨k, hk, rfl, hO, hB⟩ := hrel
    have HO := hide hO
    by_cases hlt : k < n
    · obtain ⟨c0, c1, c2⟩ := (HF k hlt).below hB hb
      clear hO
      go_wp2_with fail
      refine (toIns_any _ _ _ _).mono ?_
      rintro e w1 ⟨rfl, hB1⟩
      have HO1 : Hid (OwnIns w1 w.heap.size n k f) := HO.below hB1 (by obtain ⟨F, hr, _⟩ := HO.out; exact hr.lt)
      obtain ⟨F, hr, _⟩ := HO1.out
      have d0 := hr.cell (i := k * 3) (by omega)
      have z0 := hr.frozen (k * 3)
      have d1 := hr.cell (i := k * 3 + 1) (by omega)
      have z1 := hr.frozen (k * 3 + 1)
      have d2 := hr.cell (i := k * 3 + 2) (by omega)
      have z2 := hr.frozen (k * 3 + 2)
      clear hr c0 c1 c2
      go_wp2
      exact ⟨⟨k + 1, by omega, by go_num, HO1.step, (((hB.trans (hB1.mono hB.size)).setCell (Nat.le_refl _) _).setCell (Nat.le_refl _) _).setCell (Nat.le_refl _) _⟩, by simp [intOf]; omega⟩
    · have e : k = n := by omega
      subst e
      clear hO
      go_wp2
      go_ret
      exact ⟨_, rfl, HO.row, Nat.le_refl _, hB⟩

set_option maxHeartbeats 1000000 in
theorem toInsS_nil (a : Option Addr) (cap : Nat) (f : Nat → Ins) (w : World) :
    Calls Tryd.prog 43 #[.slice a 0 cap] w fun e w' => ∃ g, e = .returned (.slice (some ⟨g, 0, none⟩) 0 0) ∧ RowIns w' g 0 0 f ∧ w.heap.size ≤ g ∧ Below w.heap.size w w' := by
  have hmk : ∀ w : World, (Instr.makeSlice 36 (.int .i64 0) (.int .i64 0)).run Tryd.prog w = .ok (.slice (some ⟨w.heap.size, 0, none⟩) 0 0) (w.alloc (.cells (zerosIns 0) 86)) := fun w => mkIns 0 (by omega) w
  go_enter Tryd.func43, Tryd.ntmps43
  go_wp2
  clear hmk
  go_loop [4] (fun i => i = .int .i64 0) (fun _ => 0)
  case atStart => rfl
  case round =>
    subst hrel
    go_wp2
    go_ret
    exact ⟨_, rfl, (ownIns_start w 0 f).row, Nat.le_refl _, (Below.refl _ _).alloc (Nat.le_refl _) _⟩

theorem toInsS_any (a : Option Addr) (n cap : Nat) (f : Nat → Ins) (w : World) (hn : n ≤ 1048576) (hv : SlIns w a n f) :
    Calls Tryd.prog 43 #[.slice a n cap] w fun e w' => ∃ g, e = .returned (.slice (some ⟨g, 0, none⟩) n n) ∧ RowIns w' g 0 n f ∧ w.heap.size ≤ g ∧ Below w.heap.size w w' := by
  rcases hv with rfl | ⟨b, off, rfl, hl, hc⟩
  · exact toInsS_nil a cap f w
  · exact toInsS_row b off n cap f w hn hl hc

end Go.Proofs.YtolpgafkojlkoabDoor.Vp
