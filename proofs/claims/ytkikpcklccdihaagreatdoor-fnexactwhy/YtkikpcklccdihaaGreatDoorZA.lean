/-
  Put together of: DBase, DIns, DProgram, VpWord, VpOk, VpSpec, VpTab, VpImpl, DLink.
-/
import Derived.Test.YtkikpcklccdihaaGreatDoorProg
import Derived.WalkKit
import Derived.WalkSpells
import Derived.WalkLawsBesides
import Derived.Deep.OwnRows
import Derived.Deep.RegionWith
import Derived.Deep.QuietTactic
import Derived.BigQuiet

/-
  Small facts that all data texts use.
-/
namespace Go.Proofs.YtkikpcklccdihaaGreatDoor.Vp
open Go.RowKit

theorem hide {p : Prop} (h : p) : Hid p := h
theorem bcell {W w1 : World} (hb : Below W.heap.size W w1) : (∀ b o, b < W.heap.size → w1.cell? ⟨b, o, none⟩ = W.cell? ⟨b, o, none⟩) ∧ (∀ b o, b < W.heap.size → w1.frozen? ⟨b, o, none⟩ = W.frozen? ⟨b, o, none⟩) :=
  ⟨fun b o h => hb.cell (p := ⟨b, o, none⟩) h, fun b o h => hb.frozen (p := ⟨b, o, none⟩) h⟩
theorem cell_far (w : World) (p a : Addr) (v : Value) (h : p.block ≠ a.block) : (w.setCell p v).cell? a = w.cell? a :=
  World.cell?_of_block (w := w) (a := a) (Below.heap_setCell w p v a.block (fun e => h e.symm))
theorem ret_bool {a b : Bool} (h : a = b) : Ending.returned (.bool a) = .returned (.bool b) := by rw [h]
theorem ret_str {a b : ByteArray} (h : a = b) : Ending.returned (.string a) = .returned (.string b) := by rw [h]
theorem empty_of_size {s : ByteArray} (h : s.size = 0) : s = ⟨#[]⟩ := by
  obtain ⟨a⟩ := s
  have : a.size = 0 := h
  rw [Array.eq_empty_of_size_eq_zero this]
theorem toList_ne {s : ByteArray} (h : ¬ s.size = 0) : ¬ s.toList = [] := by
  intro e
  have h2 : s.toList.length = s.size := by rw [ByteArray.toList_eq]; rfl
  rw [e] at h2
  simp at h2
  omega

end Go.Proofs.YtkikpcklccdihaaGreatDoor.Vp

/-
  Data: Ins: sizes, copies, comparisons. Written by tools/flat.py.
-/
namespace Go.Proofs.YtkikpcklccdihaaGreatDoor.Vp
open Go.RowKit

structure Ins where
  op : Int
  s : ByteArray
  n : Int

/-- The cells of element i of a row that begins at off in block b. -/
def AtIns (w : World) (b off i : Nat) (x : Ins) : Prop :=
  w.cell? ⟨b, off + i * 3, none⟩ = some (.int .i64 x.op) ∧ w.cell? ⟨b, off + i * 3 + 1, none⟩ = some (.string x.s) ∧ w.cell? ⟨b, off + i * 3 + 2, none⟩ = some (.int .i64 x.n)
theorem AtIns.below {w w' : World} {B b off i : Nat} {x : Ins} (h : AtIns w b off i x) (hb : Below B w w') (hB : b < B) : AtIns w' b off i x :=
  ⟨(hb.cell (p := ⟨b, _, none⟩) hB).trans h.1, (hb.cell (p := ⟨b, _, none⟩) hB).trans h.2.1, (hb.cell (p := ⟨b, _, none⟩) hB).trans h.2.2⟩
/-- A row of n in block b, from off on. -/
def RowIns (w : World) (b off n : Nat) (f : Nat → Ins) : Prop := b < w.heap.size ∧ ∀ i, i < n → AtIns w b off i (f i)
theorem RowIns.below {w w' : World} {B b off n : Nat} {f : Nat → Ins} (h : RowIns w b off n f) (hb : Below B w w') (hB : w.heap.size ≤ B) : RowIns w' b off n f :=
  ⟨Nat.lt_of_lt_of_le h.1 hb.size, fun i hi => (h.2 i hi).below hb (Nat.lt_of_lt_of_le h.1 hB)⟩
theorem RowIns.setOther {w : World} {g n off : Nat} {f : Nat → Ins} (h : RowIns w g off n f) (p : Addr) (hp : p.block ≠ g) (v : Value) : RowIns (w.setCell p v) g off n f := by
  refine ⟨by simpa using h.1, fun i hi => ?_⟩
  have h := h.2 i hi
  have far : ∀ o, (w.setCell p v).cell? ⟨g, o, none⟩ = w.cell? ⟨g, o, none⟩ := fun o => World.cell?_of_block (w := w) (a := ⟨g, o, none⟩) (Below.heap_setCell w p v g (fun e => hp e.symm))
  exact ⟨(far _).trans h.1, (far _).trans h.2.1, (far _).trans h.2.2⟩
/-- A slice: an empty one, or a row of n. -/
def SlIns (w : World) (a : Option Addr) (n : Nat) (f : Nat → Ins) : Prop := n = 0 ∨ ∃ b off, a = some ⟨b, off, none⟩ ∧ RowIns w b off n f
theorem SlIns.below {w w' : World} {B : Nat} {a : Option Addr} {n : Nat} {f : Nat → Ins} (h : SlIns w a n f) (hb : Below B w w') (hB : w.heap.size ≤ B) : SlIns w' a n f := by
  rcases h with h | ⟨b, off, hv, hr⟩
  · exact .inl h
  · exact .inr ⟨b, off, hv, hr.below hb hB⟩
theorem RowIns.sl {w : World} {b off n : Nat} {f : Nat → Ins} (h : RowIns w b off n f) : SlIns w (some ⟨b, off, none⟩) n f := .inr ⟨b, off, rfl, h⟩

set_option maxHeartbeats 400000 in
theorem szIns_any (op : Int) (s : ByteArray) (n : Int) (left : Int) (w : World) (hss : s.size ≤ maxLen) (l0 : 0 ≤ left) (l1 : left ≤ 1048576) :
    Calls Tryz.prog 76 #[.agg #[.int .i64 op, .string s, .int .i64 n], .int .i64 left] w fun e w' => ∃ r : Int, e = .returned (.int .i64 r) ∧ -1 ≤ r ∧ r ≤ left ∧ Below w.heap.size w w' := by
  unfold maxLen at hss
  go_enter Tryz.func76, Tryz.ntmps76
  go_wp2
  all_goals go_ret
  all_goals first
    | exact ⟨-1, rfl, by omega, by omega, (Below.refl _ _).alloc (Nat.le_refl _) _⟩
    | exact ⟨_, rfl, by omega, by omega, (Below.refl _ _).alloc (Nat.le_refl _) _⟩

set_option maxHeartbeats 400000 in
theorem szInsS_big (a : Option Addr) (n cap : Nat) (left : Int) (w : World) (h0 : 0 ≤ left) (h1 : left ≤ 1048576) (hn : (n : Int) ≤ 9223372036854775807) (h : left < (n : Int)) :
    Calls Tryz.prog 60 #[.slice a n cap, .int .i64 left] w fun e w' => e = .returned (.int .i64 (-1)) ∧ w' = w := by
  go_enter Tryz.func60, Tryz.ntmps60
  go_wp2
  go_ret
  exact ⟨rfl, rfl⟩

set_option maxHeartbeats 1000000 in
theorem szInsS_row (b off n cap : Nat) (f : Nat → Ins) (left : Int) (w : World) (h0 : (n : Int) ≤ left) (h1 : left ≤ 1048576) (hb : b < w.heap.size) (hf : ∀ i, i < n → AtIns w b off i (f i)) (hs : ∀ i, i < n → (f i).s.size ≤ maxLen) :
    Calls Tryz.prog 60 #[.slice (some ⟨b, off, none⟩) n cap, .int .i64 left] w fun e w' => ∃ r : Int, e = .returned (.int .i64 r) ∧ -1 ≤ r ∧ r ≤ left ∧ Below w.heap.size w w' := by
  have HF := hide hf
  have HS := hide hs
  clear hf hs
  go_enter Tryz.func60, Tryz.ntmps60
  go_wp2
  go_loopw [1, 5] (fun l i wr => ∃ k : Nat, ∃ r : Int, k ≤ n ∧ 0 ≤ r ∧ r ≤ left ∧ i = .int .i64 k ∧ l = .int .i64 r ∧ Below w.heap.size w wr) (fun _ i _ => n - (intOf i).toNat)
  case atStart => exact ⟨0, left - n, by omega, by omega, by omega, rfl, rfl, Below.refl _ _⟩
  case round =>
    obtain ⟨k, r, hk, hr0, hr1, rfl, rfl, hB⟩ := hrel
    by_cases hlt : k < n
    · obtain ⟨c0, c1, c2⟩ := (HF.out k hlt).below hB hb
      go_wp2_with (go_at_call 76; refine (szIns_any _ _ _ _ _ (HS.out k hlt) (by omega) (by omega)).mono ?_; rintro e w' ⟨r', rfl, hr2, hr3, hB'⟩)
      · go_ret
        exact ⟨-1, rfl, by omega, by omega, hB.trans (hB'.mono hB.size)⟩
      · exact ⟨⟨k + 1, r', by omega, by omega, by omega, by go_num, rfl, hB.trans (hB'.mono hB.size)⟩, by simp [intOf]; omega⟩
    · go_wp2
      go_ret
      exact ⟨r, rfl, by omega, by omega, hB⟩

set_option maxHeartbeats 400000 in
theorem szInsS_nil (a : Option Addr) (cap : Nat) (left : Int) (w : World) (h0 : 0 ≤ left) (h1 : left ≤ 1048576) :
    Calls Tryz.prog 60 #[.slice a 0 cap, .int .i64 left] w fun e w' => e = .returned (.int .i64 left) ∧ w' = w := by
  go_enter Tryz.func60, Tryz.ntmps60
  go_wp2
  go_loop [1, 5] (fun l i => l = .int .i64 left ∧ i = .int .i64 0) (fun _ _ => 0)
  case atStart => exact ⟨by simp, rfl⟩
  case round =>
    obtain ⟨rfl, rfl⟩ := hrel
    go_wp2
    go_ret
    exact ⟨rfl, rfl⟩

theorem szInsS_any (a : Option Addr) (n cap : Nat) (f : Nat → Ins) (left : Int) (w : World) (h0 : 0 ≤ left) (h1 : left ≤ 1048576) (hn : (n : Int) ≤ 9223372036854775807) (hv : SlIns w a n f) (hs : ∀ i, i < n → (f i).s.size ≤ maxLen) :
    Calls Tryz.prog 60 #[.slice a n cap, .int .i64 left] w fun e w' => ∃ r : Int, e = .returned (.int .i64 r) ∧ -1 ≤ r ∧ r ≤ left ∧ (0 ≤ r → (n : Int) ≤ left) ∧ Below w.heap.size w w' := by
  rcases hv with rfl | ⟨b, off, rfl, hl, hc⟩
  · exact (szInsS_nil a cap left w h0 h1).mono fun e w' ⟨a, b⟩ => ⟨_, a, by omega, by omega, fun _ => by omega, by rw [b]; exact Below.refl _ _⟩
  · by_cases h : (n : Int) ≤ left
    · exact (szInsS_row b off n cap f left w h h1 hl hc hs).mono fun e w' ⟨r, a, b, c, d⟩ => ⟨r, a, b, c, fun _ => h, d⟩
    · exact (szInsS_big _ n cap left w h0 h1 hn (by omega)).mono fun e w' ⟨a, b⟩ => ⟨_, a, by omega, by omega, fun _ => by omega, by rw [b]; exact Below.refl _ _⟩

theorem infoIns : (Tryz.prog.info? 107).map (fun i => (i.zero, i.size, i.bytes)) = some (some (.agg #[.int .i64 0, .string ⟨#[]⟩, .int .i64 0]), 3, 32) := by kernel_rfl
def zerosIns (n : Nat) : Array Value := madeCells (Value.agg #[.int .i64 0, .string ⟨#[]⟩, .int .i64 0]).cells (n * 3)
theorem mkIns (n : Nat) (hn : n ≤ 1048576) (w : World) : (Instr.makeSlice 43 (.int .i64 (n : Int)) (.int .i64 (n : Int))).run Tryz.prog w = .ok (.slice (some ⟨w.heap.size, 0, none⟩) n n) (w.alloc (.cells (zerosIns n) 107)) := by
  obtain ⟨i, hi, hz⟩ := Option.map_eq_some_iff.1 infoIns
  simp only [Prod.mk.injEq] at hz
  obtain ⟨h1, h2, h3⟩ := hz
  have h := run_make (P := Tryz.prog) w 43 107 i _ Tryz.underlying43 hi h1 .i64 .i64 n n (by omega) (Int.le_refl _) (by rw [h3]; omega) (by omega)
  rw [h2] at h
  simpa [zerosIns] using h

/-- Block g is a row of n elements' cells; the first k are those of f. -/
def OwnIns (w : World) (g n k : Nat) (f : Nat → Ins) : Prop :=
  ∃ F, w.rowIs g 107 (n * 3) F ∧ ∀ i, i < k → F (i * 3) = .int .i64 (f i).op ∧ F (i * 3 + 1) = .string (f i).s ∧ F (i * 3 + 2) = .int .i64 (f i).n
theorem ownIns_start (w : World) (n : Nat) (f : Nat → Ins) : OwnIns (w.alloc (.cells (zerosIns n) 107)) w.heap.size n 0 f := by
  have hz : (zerosIns n).size = n * 3 := size_madeCells _ _
  have h := World.rowIs_alloc w (zerosIns n) 107 (fun i => (zerosIns n)[i]?.getD undef) (fun i hi => by rw [Array.getElem?_eq_getElem hi]; rfl)
  rw [hz] at h
  exact ⟨_, h, fun i hi => absurd hi (Nat.not_lt_zero _)⟩
theorem OwnIns.step {w : World} {g n k : Nat} {f : Nat → Ins} (h : OwnIns w g n k f) :
    OwnIns (((w.setCell ⟨g, k * 3, none⟩ (.int .i64 (f k).op)).setCell ⟨g, k * 3 + 1, none⟩ (.string (f k).s)).setCell ⟨g, k * 3 + 2, none⟩ (.int .i64 (f k).n)) g n (k + 1) f := by
  obtain ⟨F, hr, hF⟩ := h
  refine ⟨_, (((hr.set _ _).set _ _).set _ _), fun i hi => ?_⟩
  by_cases e : i = k
  · subst e
    exact ⟨by simp, by simp, by simp⟩
  · have h := hF i (by omega)
    refine ⟨?_, ?_, ?_⟩
    · show (if _ then _ else if _ then _ else if _ then _ else _) = _
      rw [if_neg (by omega), if_neg (by omega), if_neg (by omega), h.1]
    · show (if _ then _ else if _ then _ else if _ then _ else _) = _
      rw [if_neg (by omega), if_neg (by omega), if_neg (by omega), h.2.1]
    · show (if _ then _ else if _ then _ else if _ then _ else _) = _
      rw [if_neg (by omega), if_neg (by omega), if_neg (by omega), h.2.2]
theorem OwnIns.below {w w' : World} {g n k : Nat} {f : Nat → Ins} {B : Nat} (h : OwnIns w g n k f) (hb : Below B w w') (hB : g < B) : OwnIns w' g n k f := by
  obtain ⟨F, hr, hF⟩ := h
  exact ⟨F, hr.of_block (hb.block g hB), hF⟩
theorem OwnIns.row {w : World} {g n : Nat} {f : Nat → Ins} (h : OwnIns w g n n f) : RowIns w g 0 n f := by
  obtain ⟨F, hr, hF⟩ := h
  refine ⟨hr.lt, fun i hi => ?_⟩
  have h := hF i hi
  refine ⟨?_, ?_, ?_⟩
  · rw [Nat.zero_add, hr.cell (by omega), h.1]
  · rw [Nat.zero_add, hr.cell (by omega), h.2.1]
  · rw [Nat.zero_add, hr.cell (by omega), h.2.2]

set_option maxHeartbeats 400000 in
theorem toIns_any (op : Int) (s : ByteArray) (n : Int) (w : World) :
    Calls Tryz.prog 78 #[.agg #[.int .i64 op, .string s, .int .i64 n]] w fun e w' => e = .returned (.agg #[.int .i64 op, .string s, .int .i64 n]) ∧ Below w.heap.size w w' := by
  go_enter Tryz.func78, Tryz.ntmps78
  go_wp2
  refine bodyPost_ret (v := .agg #[.int .i64 op, .string s, .int .i64 n]) (by simp [results, Tryz.results78, go_sem]) rfl ⟨rfl, ?_⟩
  exact (((Below.refl _ _).alloc (Nat.le_refl _) _).alloc (by simp) _).alloc (by simp; omega) _

set_option maxHeartbeats 1000000 in
theorem toInsS_row (b off n cap : Nat) (f : Nat → Ins) (w : World) (hn : n ≤ 1048576) (hb : b < w.heap.size) (hf : ∀ i, i < n → AtIns w b off i (f i)) :
    Calls Tryz.prog 66 #[.slice (some ⟨b, off, none⟩) n cap] w fun e w' => ∃ g, e = .returned (.slice (some ⟨g, 0, none⟩) n n) ∧ RowIns w' g 0 n f ∧ w.heap.size ≤ g ∧ Below w.heap.size w w' := by
  have HF := hide hf
  clear hf
  have hmk := mkIns n hn
  go_enter Tryz.func66, Tryz.ntmps66
  go_wp2
  clear hmk
  go_loopw [4] (fun i wr => ∃ k : Nat, k ≤ n ∧ i = .int .i64 k ∧ OwnIns wr w.heap.size n k f ∧ Below w.heap.size w wr) (fun i _ => n - (intOf i).toNat)
  case atStart => exact ⟨0, by omega, rfl, ownIns_start w n f, (Below.refl _ _).alloc (Nat.le_refl _) _⟩
  case round =>
    obtain ⟨k, hk, rfl, hO, hB⟩ := hrel
    have HO := hide hO
    by_cases hlt : k < n
    · obtain ⟨c0, c1, c2⟩ := (HF.out k hlt).below hB hb
      clear hO
      go_wp2_with fail
      refine (toIns_any _ _ _ _).mono ?_
      rintro e w1 ⟨rfl, hB1⟩
      have HO1 : Hid (OwnIns w1 w.heap.size n k f) := HO.out.below hB1 (by obtain ⟨F, hr, _⟩ := HO.out; exact hr.lt)
      obtain ⟨F, hr, _⟩ := HO1.out
      have d0 := hr.cell (i := k * 3) (by omega)
      have z0 := hr.frozen (k * 3)
      have d1 := hr.cell (i := k * 3 + 1) (by omega)
      have z1 := hr.frozen (k * 3 + 1)
      have d2 := hr.cell (i := k * 3 + 2) (by omega)
      have z2 := hr.frozen (k * 3 + 2)
      clear hr c0 c1 c2
      go_wp2
      exact ⟨⟨k + 1, by omega, by go_num, HO1.out.step, (((hB.trans (hB1.mono hB.size)).setCell (Nat.le_refl _) _).setCell (Nat.le_refl _) _).setCell (Nat.le_refl _) _⟩, by simp [intOf]; omega⟩
    · have e : k = n := by omega
      subst e
      clear hO
      go_wp2
      go_ret
      exact ⟨_, rfl, HO.out.row, Nat.le_refl _, hB⟩

set_option maxHeartbeats 1000000 in
theorem toInsS_nil (a : Option Addr) (cap : Nat) (f : Nat → Ins) (w : World) :
    Calls Tryz.prog 66 #[.slice a 0 cap] w fun e w' => ∃ g, e = .returned (.slice (some ⟨g, 0, none⟩) 0 0) ∧ RowIns w' g 0 0 f ∧ w.heap.size ≤ g ∧ Below w.heap.size w w' := by
  have hmk : ∀ w : World, (Instr.makeSlice 43 (.int .i64 0) (.int .i64 0)).run Tryz.prog w = .ok (.slice (some ⟨w.heap.size, 0, none⟩) 0 0) (w.alloc (.cells (zerosIns 0) 107)) := fun w => mkIns 0 (by omega) w
  go_enter Tryz.func66, Tryz.ntmps66
  go_wp2
  clear hmk
  go_loop [4] (fun i => i = .int .i64 0) (fun _ => 0)
  case atStart => rfl
  case round =>
    subst hrel
    go_wp2
    go_ret
    exact ⟨_, rfl, (ownIns_start w 0 f).row, Nat.le_refl _, (Below.refl _ _).alloc (Nat.le_refl _) _⟩

theorem toInsS_any (a : Option Addr) (n cap : Nat) (f : Nat → Ins) (w : World) (hn : n ≤ 1048576) (hv : SlIns w a n f) :
    Calls Tryz.prog 66 #[.slice a n cap] w fun e w' => ∃ g, e = .returned (.slice (some ⟨g, 0, none⟩) n n) ∧ RowIns w' g 0 n f ∧ w.heap.size ≤ g ∧ Below w.heap.size w w' := by
  rcases hv with rfl | ⟨b, off, rfl, hl, hc⟩
  · exact toInsS_nil a cap f w
  · exact toInsS_row b off n cap f w hn hl hc

set_option maxHeartbeats 400000 in
theorem eqIns_same (op : Int) (s : ByteArray) (n : Int) (w : World) :
    Calls Tryz.prog 96 #[.agg #[.int .i64 op, .string s, .int .i64 n], .agg #[.int .i64 op, .string s, .int .i64 n]] w fun e w' => e = .returned (.bool true) ∧ Below w.heap.size w w' := by
  go_enter Tryz.func96, Tryz.ntmps96
  go_wp2
  go_ret
  exact ⟨rfl, ((Below.refl _ _).alloc (Nat.le_refl _) _).alloc (by simp) _⟩

set_option maxHeartbeats 1000000 in
theorem eqInsS_row (b off cap b2 off2 cap2 n : Nat) (f : Nat → Ins) (w : World) (hn : n ≤ 1048576) (hb : b < w.heap.size) (hf : ∀ i, i < n → AtIns w b off i (f i)) (hb2 : b2 < w.heap.size) (hf2 : ∀ i, i < n → AtIns w b2 off2 i (f i)) :
    Calls Tryz.prog 74 #[.slice (some ⟨b, off, none⟩) n cap, .slice (some ⟨b2, off2, none⟩) n cap2] w fun e w' => e = .returned (.bool true) ∧ Below w.heap.size w w' := by
  have HF := hide hf
  have HF2 := hide hf2
  clear hf hf2
  go_enter Tryz.func74, Tryz.ntmps74
  go_wp2
  go_loopw [5] (fun i wr => ∃ k : Nat, k ≤ n ∧ i = .int .i64 k ∧ Below w.heap.size w wr) (fun i _ => n - (intOf i).toNat)
  case atStart => exact ⟨0, by omega, rfl, Below.refl _ _⟩
  case round =>
    obtain ⟨k, hk, rfl, hB⟩ := hrel
    have HB := hide hB
    have hsz : w.heap.size ≤ wr.heap.size := hB.size
    clear hB
    by_cases hlt : k < n
    · obtain ⟨c0, c1, c2⟩ := (HF.out k hlt).below HB.out hb
      obtain ⟨d0, d1, d2⟩ := (HF2.out k hlt).below HB.out hb2
      go_wp2_with fail
      go_region_with (go_at_call 96; refine (eqIns_same _ _ _ _).mono ?_; rintro e w' ⟨rfl, hB'⟩)
      all_goals
        go_wp2
        exact ⟨⟨k + 1, by omega, by go_num, Below.trans (by repeat (first | exact HB.out | apply Below.drew)) (hB'.mono hsz)⟩, by simp [intOf]; omega⟩
    · have e : k = n := by omega
      subst e
      go_wp2
      go_ret
      exact ⟨rfl, HB.out⟩

set_option maxHeartbeats 1000000 in
theorem eqInsS_nil (a a2 : Option Addr) (cap cap2 : Nat) (w : World) :
    Calls Tryz.prog 74 #[.slice a 0 cap, .slice a2 0 cap2] w fun e w' => e = .returned (.bool true) ∧ w' = w := by
  go_enter Tryz.func74, Tryz.ntmps74
  go_wp2
  go_loop [5] (fun i => i = .int .i64 0) (fun _ => 0)
  case atStart => rfl
  case round =>
    subst hrel
    go_wp2
    go_ret
    exact ⟨rfl, rfl⟩

/-- The same elements: equal. -/
theorem eqInsS_any (a a2 : Option Addr) (cap cap2 n : Nat) (f : Nat → Ins) (w : World) (hn : n ≤ 1048576) (h : SlIns w a n f) (h2 : SlIns w a2 n f) :
    Calls Tryz.prog 74 #[.slice a n cap, .slice a2 n cap2] w fun e w' => e = .returned (.bool true) ∧ Below w.heap.size w w' := by
  by_cases hz : n = 0
  · subst hz
    exact (eqInsS_nil a a2 cap cap2 w).mono fun _ _ ⟨a, b⟩ => ⟨a, by rw [b]; exact Below.refl _ _⟩
  · rcases h with h | ⟨b, off, rfl, hb, hf⟩
    · exact absurd h hz
    · rcases h2 with h | ⟨b2, off2, rfl, hb2, hf2⟩
      · exact absurd h hz
      · exact eqInsS_row b off cap b2 off2 cap2 n f w hn hb hf hb2 hf2

end Go.Proofs.YtkikpcklccdihaaGreatDoor.Vp

/-
  Data: Program, a struct of one slice of Ins. Written by tools/wrap.py.
-/
namespace Go.Proofs.YtkikpcklccdihaaGreatDoor.Vp
open Go.RowKit

set_option maxHeartbeats 400000 in
theorem szProgram_any (a : Option Addr) (n cap : Nat) (f : Nat → Ins) (left : Int) (w : World) (h0 : 0 ≤ left) (h1 : left ≤ 1048576) (hn : (n : Int) ≤ 9223372036854775807) (hv : SlIns w a n f) (hs : ∀ i, i < n → (f i).s.size ≤ maxLen) :
    Calls Tryz.prog 43 #[.agg #[.slice a n cap], .int .i64 left] w fun e w' => ∃ r : Int, e = .returned (.int .i64 r) ∧ -1 ≤ r ∧ r ≤ left ∧ (0 ≤ r → (n : Int) ≤ left) ∧ Below w.heap.size w w' := by
  have HV := hide hv
  have HS := hide hs
  clear hv hs
  go_enter Tryz.func43, Tryz.ntmps43
  go_wp2_with fail
  refine (szInsS_any a n cap f left _ h0 h1 hn (HV.out.below ((Below.refl _ _).alloc (Nat.le_refl _) _) (Nat.le_refl _)) HS.out).mono ?_
  rintro e w' ⟨r, rfl, hr1, hr2, hr3, hB⟩
  go_wp2
  all_goals go_ret
  · exact ⟨-1, rfl, by omega, by omega, fun _ => by omega, ((Below.refl _ _).alloc (Nat.le_refl _) _).trans (hB.mono (by simp))⟩
  · exact ⟨r, rfl, hr1, hr2, hr3, ((Below.refl _ _).alloc (Nat.le_refl _) _).trans (hB.mono (by simp))⟩

set_option maxHeartbeats 1000000 in
theorem toProgram_any (a : Option Addr) (n cap : Nat) (f : Nat → Ins) (w : World) (hn : n ≤ 1048576) (hv : SlIns w a n f) :
    Calls Tryz.prog 47 #[.agg #[.slice a n cap]] w fun e w' => ∃ g, e = .returned (.agg #[.slice (some ⟨g, 0, none⟩) n n]) ∧ RowIns w' g 0 n f ∧ w.heap.size ≤ g ∧ Below w.heap.size w w' := by
  have HV := hide hv
  clear hv
  go_enter Tryz.func47, Tryz.ntmps47
  go_wp2_with fail
  refine (toInsS_any a n cap f _ hn (HV.out.below ((((Below.refl _ _).alloc (Nat.le_refl _) _).alloc (by simp) _).alloc (by simp; omega) _) (Nat.le_refl _))).mono ?_
  rintro e w' ⟨g, rfl, hv', hg, hB⟩
  have HV' := hide hv'
  have HB := hide hB
  obtain ⟨hc, hz⟩ := bcell hB
  clear hv' hB
  simp at hg
  go_wp2
  refine bodyPost_ret (v := .agg #[.slice (some ⟨g, 0, none⟩) n n]) (by simp [results, Tryz.results47, go_sem, hc]) rfl ⟨g, rfl, (HV'.out.setOther _ (by simp; omega) _).setOther _ (by simp; omega) _, by omega, ?_⟩
  exact ((((((Below.refl _ _).alloc (Nat.le_refl _) _).alloc (by simp) _).alloc (by simp; omega) _).trans (HB.out.mono (by simp; omega))).setCell (by simp; omega) _).setCell (by simp) _

set_option maxHeartbeats 1000000 in
theorem eqProgram_any (a a2 : Option Addr) (cap cap2 n : Nat) (f : Nat → Ins) (w : World) (hn : n ≤ 1048576) (h : SlIns w a n f) (h2 : SlIns w a2 n f) :
    Calls Tryz.prog 58 #[.agg #[.slice a n cap], .agg #[.slice a2 n cap2]] w fun e w' => e = .returned (.bool true) ∧ Below w.heap.size w w' := by
  have HF := hide h
  have HF2 := hide h2
  clear h h2
  go_enter Tryz.func58, Tryz.ntmps58
  go_wp2_with fail
  have hA := hide (((Below.refl w.heap.size w).alloc (Nat.le_refl _) (.cells #[.slice a n cap] 45)).alloc (by simp) (.cells #[.slice a2 n cap2] 45))
  refine (eqInsS_any a a2 cap cap2 n f _ hn (HF.out.below hA.out (Nat.le_refl _)) (HF2.out.below hA.out (Nat.le_refl _))).mono ?_
  rintro e w' ⟨rfl, hB⟩
  go_wp2
  go_ret
  exact ⟨rfl, hA.out.trans (hB.mono (by simp; omega))⟩

end Go.Proofs.YtkikpcklccdihaaGreatDoor.Vp

/-
  l1Word: the word and the operand's kind of an instruction.
-/
namespace Go.Proofs.YtkikpcklccdihaaGreatDoor.Vp
open Go.RowKit

/-- The word and the operand's kind of an instruction. -/
def word : Int → List UInt8
  | 1 => [108, 105, 116] | 2 => [99, 97, 116] | 3 => [99, 117, 116] | 4 => [114, 101, 115, 116] | 5 => [119, 111, 114, 100] | 6 => [115, 97, 109, 101] | 7 => [100, 117, 112] | 8 => [115, 119, 97, 112] | 9 => [100, 114, 111, 112]
  | 10 => [106, 117, 109, 112] | 11 => [117, 110, 108, 101, 115, 115] | 12 => [97, 115, 107] | 13 => [104, 97, 115] | 14 => [102, 97, 105, 108] | 15 => [101, 110, 100] | _ => []
def kind : Int → Int
  | 1 => 1 | 3 => 2 | 4 => 2 | 5 => 2 | 10 => 3 | 11 => 3 | _ => 0

set_option maxHeartbeats 1000000 in
theorem l1Word_any (op : Int) (w : World) :
    Calls Tryz.prog 106 #[.int .i64 op] w fun e w' => e = .returned (.tuple #[.string ⟨(word op).toArray⟩, .int .i64 (kind op)]) ∧ w' = w := by
  by_cases h : 1 ≤ op ∧ op ≤ 15
  · have hc : op = 1 ∨ op = 2 ∨ op = 3 ∨ op = 4 ∨ op = 5 ∨ op = 6 ∨ op = 7 ∨ op = 8 ∨ op = 9 ∨ op = 10 ∨ op = 11 ∨ op = 12 ∨ op = 13 ∨ op = 14 ∨ op = 15 := by omega
    clear h
    rcases hc with rfl | rfl | rfl | rfl | rfl | rfl | rfl | rfl | rfl | rfl | rfl | rfl | rfl | rfl | rfl
    all_goals
      go_enter Tryz.func106, Tryz.ntmps106
      go_wp2
      go_ret2
      exact ⟨rfl, rfl⟩
  · have hw : word op = [] := by
      unfold word
      split <;> first | omega | rfl
    have hk : kind op = 0 := by
      unfold kind
      split <;> first | omega | rfl
    rw [hw, hk]
    clear hw hk
    rcases (show op < 1 ∨ 15 < op by omega) with h | h
    all_goals
      go_enter Tryz.func106, Tryz.ntmps106
      go_wp2
      go_ret2
      exact ⟨rfl, rfl⟩

end Go.Proofs.YtkikpcklccdihaaGreatDoor.Vp

/-
  l1InsOk and validIns: the same test.
-/
namespace Go.Proofs.YtkikpcklccdihaaGreatDoor.Vp
open Go.RowKit

def mostText (op : Int) : Int := if op = 1 then 2000 else 0
def mostN (op : Int) : Int := if op = 3 ∨ op = 4 ∨ op = 5 then 2000 else if op = 10 ∨ op = 11 then 200 else 0
def insOk (op : Int) (sz : Nat) (n : Int) : Bool := decide (1 ≤ op ∧ op ≤ 15 ∧ (sz : Int) ≤ mostText op ∧ 0 ≤ n ∧ n ≤ mostN op)


set_option maxHeartbeats 1000000 in
theorem l1InsOk_ne (op : Int) (s : ByteArray) (n : Int) (w : World) (hs : s.size ≤ maxLen) (hz : ¬ s.toList = []) (h0 : 0 < s.size) :
    Calls Tryz.prog 97 #[.agg #[.int .i64 op, .string s, .int .i64 n]] w fun e w' => e = .returned (.bool (insOk op s.size n)) ∧ Below w.heap.size w w' := by
  unfold maxLen at hs
  by_cases h : 1 ≤ op ∧ op ≤ 15
  · have hc : op = 1 ∨ op = 2 ∨ op = 3 ∨ op = 4 ∨ op = 5 ∨ op = 6 ∨ op = 7 ∨ op = 8 ∨ op = 9 ∨ op = 10 ∨ op = 11 ∨ op = 12 ∨ op = 13 ∨ op = 14 ∨ op = 15 := by omega
    clear h
    rcases hc with rfl | rfl | rfl | rfl | rfl | rfl | rfl | rfl | rfl | rfl | rfl | rfl | rfl | rfl | rfl
    all_goals
      go_enter Tryz.func97, Tryz.ntmps97
      go_wp2
      all_goals go_ret
      all_goals refine ⟨ret_bool ?_, (Below.refl _ _).alloc (Nat.le_refl _) _⟩
      all_goals (rw [Bool.eq_iff_iff]; generalize s.size = z at *; simp [insOk, mostText, mostN]; try omega)
  · rcases (show op < 1 ∨ 15 < op by omega) with h | h
    all_goals
      go_enter Tryz.func97, Tryz.ntmps97
      go_wp2
      go_ret
      refine ⟨ret_bool ?_, (Below.refl _ _).alloc (Nat.le_refl _) _⟩
      rw [Bool.eq_iff_iff]; simp [insOk]; omega

set_option maxHeartbeats 1000000 in
theorem l1InsOk_em (op : Int) (n : Int) (w : World) :
    Calls Tryz.prog 97 #[.agg #[.int .i64 op, .string ⟨#[]⟩, .int .i64 n]] w fun e w' => e = .returned (.bool (insOk op 0 n)) ∧ Below w.heap.size w w' := by
  by_cases h : 1 ≤ op ∧ op ≤ 15
  · have hc : op = 1 ∨ op = 2 ∨ op = 3 ∨ op = 4 ∨ op = 5 ∨ op = 6 ∨ op = 7 ∨ op = 8 ∨ op = 9 ∨ op = 10 ∨ op = 11 ∨ op = 12 ∨ op = 13 ∨ op = 14 ∨ op = 15 := by omega
    clear h
    rcases hc with rfl | rfl | rfl | rfl | rfl | rfl | rfl | rfl | rfl | rfl | rfl | rfl | rfl | rfl | rfl
    all_goals
      go_enter Tryz.func97, Tryz.ntmps97
      go_wp2
      all_goals go_ret
      all_goals refine ⟨ret_bool ?_, (Below.refl _ _).alloc (Nat.le_refl _) _⟩
      all_goals (rw [Bool.eq_iff_iff]; simp [insOk, mostText, mostN]; try omega)
  · rcases (show op < 1 ∨ 15 < op by omega) with h | h
    all_goals
      go_enter Tryz.func97, Tryz.ntmps97
      go_wp2
      go_ret
      refine ⟨ret_bool ?_, (Below.refl _ _).alloc (Nat.le_refl _) _⟩
      rw [Bool.eq_iff_iff]; simp [insOk]; omega

theorem l1InsOk_any (op : Int) (s : ByteArray) (n : Int) (w : World) (hs : s.size ≤ maxLen) :
    Calls Tryz.prog 97 #[.agg #[.int .i64 op, .string s, .int .i64 n]] w fun e w' => e = .returned (.bool (insOk op s.size n)) ∧ Below w.heap.size w w' := by
  by_cases h : s.size = 0
  · have e := empty_of_size h
    subst e
    exact l1InsOk_em op n w
  · exact l1InsOk_ne op s n w hs (toList_ne h) (by omega)

end Go.Proofs.YtkikpcklccdihaaGreatDoor.Vp

/-
  The two ValidProgram: one answer.
-/
namespace Go.Proofs.YtkikpcklccdihaaGreatDoor.Vp
open Go.RowKit

/-- The first k instructions are right. -/
def okTo (f : Nat → Ins) : Nat → Bool
  | 0 => true
  | k + 1 => okTo f k && insOk (f k).op (f k).s.size (f k).n
theorem okTo_mono {f : Nat → Ins} {k n : Nat} (h : k ≤ n) (hn : okTo f n = true) : okTo f k = true := by
  induction n with
  | zero => obtain rfl : k = 0 := by omega
            exact hn
  | succ m ih =>
    by_cases e : k = m + 1
    · subst e; exact hn
    · simp only [okTo, Bool.and_eq_true] at hn
      exact ih (by omega) hn.1
theorem okTo_false {f : Nat → Ins} {k n : Nat} (h : k < n) (hk : insOk (f k).op (f k).s.size (f k).n = false) : okTo f n = false := by
  cases e : okTo f n with
  | false => rfl
  | true =>
    have h2 := okTo_mono (show k + 1 ≤ n by omega) e
    simp [okTo, hk] at h2
def valid (f : Nat → Ins) (n : Nat) : Bool := okTo f n && decide (1 ≤ (n : Int) ∧ (n : Int) ≤ 200)

theorem valid_parts {f : Nat → Ins} {n : Nat} (h : valid f n = true) : okTo f n = true ∧ 1 ≤ (n : Int) ∧ (n : Int) ≤ 200 := by
  unfold valid at h
  rw [Bool.and_eq_true, decide_eq_true_eq] at h
  exact h
theorem ok_at {f : Nat → Ins} {k n : Nat} (h : okTo f n = true) (hk : k < n) : insOk (f k).op (f k).s.size (f k).n = true := by
  have := okTo_mono (show k + 1 ≤ n by omega) h
  simp only [okTo, Bool.and_eq_true] at this
  exact this.2

set_option maxHeartbeats 1000000 in
theorem specValid_row (b off n cap : Nat) (f : Nat → Ins) (w : World) (hn : n ≤ 1048576) (hb : b < w.heap.size) (hf : ∀ i, i < n → AtIns w b off i (f i)) (hs : ∀ i, i < n → (f i).s.size ≤ maxLen) :
    Calls Tryz.prog 77 #[.agg #[.slice (some ⟨b, off, none⟩) n cap]] w fun e w' => e = .returned (.bool (valid f n)) ∧ Below w.heap.size w w' := by
  have HF := hide hf
  have HS := hide hs
  clear hf hs
  go_enter Tryz.func77, Tryz.ntmps77
  go_wp2
  go_loopw [3] (fun i wr => ∃ k : Nat, k ≤ n ∧ i = .int .i64 k ∧ okTo f k = true ∧ Below (w.heap.size + 1) (w.alloc (.cells #[.slice (some ⟨b, off, none⟩) n cap] 45)) wr) (fun i _ => n - (intOf i).toNat)
  case atStart => exact ⟨0, by omega, rfl, rfl, Below.refl _ _⟩
  case round =>
    obtain ⟨k, hk, rfl, hok, hB⟩ := hrel
    have HB := hide hB
    have HK := hide hok
    have hc0 : wr.cell? ⟨w.heap.size, 0, none⟩ = some (.slice (some ⟨b, off, none⟩) n cap) := by
      rw [hB.cell (p := ⟨w.heap.size, 0, none⟩) (by simp)]; simp
    have HW : Hid (Below w.heap.size w wr) := ((Below.refl _ _).alloc (Nat.le_refl _) _).trans (hB.mono (by omega))
    have hsz : w.heap.size + 1 ≤ wr.heap.size := by have := hB.size; simpa using this
    clear hB hok
    by_cases hlt : k < n
    · obtain ⟨c0, c1, c2⟩ := (HF.out k hlt).below HW.out hb
      go_wp2_with fail
      refine (l1InsOk_any _ _ _ _ (HS.out k hlt)).mono ?_
      rintro e w' ⟨rfl, hB'⟩
      have HB' := hide hB'
      clear hB' c0 c1 c2 hc0
      cases hi : insOk (f k).op (f k).s.size (f k).n with
      | false =>
        have HI := hide hi
        clear hi
        go_wp2
        go_ret
        refine ⟨ret_bool ?_, HW.out.trans (HB'.out.mono HW.out.size)⟩
        simp [valid, okTo_false hlt HI.out]
      | true =>
        have HI := hide hi
        clear hi
        go_wp2
        exact ⟨⟨k + 1, by omega, by go_num, by simp [okTo, HK.out, HI.out], HB.out.trans (HB'.out.mono hsz)⟩, by simp [intOf]; omega⟩
    · have e : k = n := by omega
      subst e
      by_cases h1 : 1 ≤ (k : Int)
      all_goals
        go_wp2
        go_ret
        refine ⟨ret_bool ?_, HW.out⟩
        rw [Bool.eq_iff_iff]
        simp [valid, HK.out]
        try omega

end Go.Proofs.YtkikpcklccdihaaGreatDoor.Vp

/-
  validIns: the table's rows.
-/
namespace Go.Proofs.YtkikpcklccdihaaGreatDoor.Vp
open Go.RowKit

set_option maxHeartbeats 400000 in
theorem validIns_a (k : Nat) (s : ByteArray) (n mt mn : Int) (w : World) (h1 : 1 ≤ (k : Int)) (h2 : (k : Int) ≤ 15)
    (hT : w.cell? ⟨0, k * 5 + 1, none⟩ = some (.int .i64 mt)) (hN : w.cell? ⟨0, k * 5 + 2, none⟩ = some (.int .i64 mn)) (hz : 0 < w.heap.size)
    (ht : (s.size : Int) ≤ mt) (hn : 0 ≤ n) :
    Calls Tryz.prog 98 #[.agg #[.int .i64 k, .string s, .int .i64 n]] w fun e w' => e = .returned (.bool (decide (n ≤ mn))) ∧ Below w.heap.size w w' := by
  go_enter Tryz.func98, Tryz.ntmps98
  go_wp2
  go_quiet (fail)
  go_wp2
  go_ret
  exact ⟨rfl, below_drewN ((Below.refl _ _).alloc (Nat.le_refl _) _) _⟩

set_option maxHeartbeats 400000 in
theorem validIns_b (k : Nat) (s : ByteArray) (n mt : Int) (w : World) (h1 : 1 ≤ (k : Int)) (h2 : (k : Int) ≤ 15)
    (hT : w.cell? ⟨0, k * 5 + 1, none⟩ = some (.int .i64 mt)) (hz : 0 < w.heap.size)
    (ht : (s.size : Int) ≤ mt) (hn : n < 0) :
    Calls Tryz.prog 98 #[.agg #[.int .i64 k, .string s, .int .i64 n]] w fun e w' => e = .returned (.bool false) ∧ Below w.heap.size w w' := by
  have hd : decide (0 ≤ n) = false := by simp; omega
  go_enter Tryz.func98, Tryz.ntmps98
  go_wp2
  go_quiet (fail)
  go_wp2
  go_ret
  exact ⟨rfl, below_drewN ((Below.refl _ _).alloc (Nat.le_refl _) _) _⟩

set_option maxHeartbeats 400000 in
theorem validIns_c (k : Nat) (s : ByteArray) (n mt : Int) (w : World) (h1 : 1 ≤ (k : Int)) (h2 : (k : Int) ≤ 15)
    (hT : w.cell? ⟨0, k * 5 + 1, none⟩ = some (.int .i64 mt)) (hz : 0 < w.heap.size)
    (ht : mt < (s.size : Int)) :
    Calls Tryz.prog 98 #[.agg #[.int .i64 k, .string s, .int .i64 n]] w fun e w' => e = .returned (.bool false) ∧ Below w.heap.size w w' := by
  have hd : decide ((s.size : Int) ≤ mt) = false := by simp; omega
  go_enter Tryz.func98, Tryz.ntmps98
  go_wp2
  go_quiet (fail)
  go_wp2
  go_ret
  exact ⟨rfl, below_drewN ((Below.refl _ _).alloc (Nat.le_refl _) _) _⟩

set_option maxHeartbeats 400000 in
theorem validIns_d (op : Int) (s : ByteArray) (n : Int) (w : World) (h : op < 1 ∨ 15 < op) :
    Calls Tryz.prog 98 #[.agg #[.int .i64 op, .string s, .int .i64 n]] w fun e w' => e = .returned (.bool false) ∧ Below w.heap.size w w' := by
  rcases h with h | h
  all_goals
    go_enter Tryz.func98, Tryz.ntmps98
    go_wp2
    go_ret
    exact ⟨rfl, (Below.refl _ _).alloc (Nat.le_refl _) _⟩

/-- The table, as far as it is read: the bounds of each operation's operands. -/
def Tab (w : World) : Prop := 0 < w.heap.size ∧ ∀ k : Nat, k < 16 → w.cell? ⟨0, k * 5 + 1, none⟩ = some (.int .i64 (mostText k)) ∧ w.cell? ⟨0, k * 5 + 2, none⟩ = some (.int .i64 (mostN k))

theorem validIns_any (op : Int) (s : ByteArray) (n : Int) (w : World) (hT : Tab w) :
    Calls Tryz.prog 98 #[.agg #[.int .i64 op, .string s, .int .i64 n]] w fun e w' => e = .returned (.bool (insOk op s.size n)) ∧ Below w.heap.size w w' := by
  by_cases h : 1 ≤ op ∧ op ≤ 15
  · obtain ⟨k, rfl⟩ := Int.eq_ofNat_of_zero_le (show 0 ≤ op by omega)
    obtain ⟨h1, h2⟩ := h
    obtain ⟨t1, t2⟩ := hT.2 k (by omega)
    by_cases ht : (s.size : Int) ≤ mostText k
    · by_cases hn : 0 ≤ n
      · have e : insOk (k : Int) s.size n = decide (n ≤ mostN k) := by
          unfold insOk
          rw [Bool.eq_iff_iff, decide_eq_true_eq, decide_eq_true_eq]
          exact ⟨fun h => h.2.2.2.2, fun h => ⟨h1, h2, ht, hn, h⟩⟩
        rw [e]
        exact validIns_a k s n _ _ w h1 h2 t1 t2 hT.1 ht hn
      · have e : insOk (k : Int) s.size n = false := by
          unfold insOk
          rw [decide_eq_false_iff_not]
          exact fun h => hn h.2.2.2.1
        rw [e]
        exact validIns_b k s n _ w h1 h2 t1 hT.1 ht (by omega)
    · have e : insOk (k : Int) s.size n = false := by
        unfold insOk
        rw [decide_eq_false_iff_not]
        exact fun h => ht h.2.2.1
      rw [e]
      exact validIns_c k s n _ w h1 h2 t1 hT.1 (by omega)
  · have e : insOk op s.size n = false := by
      unfold insOk
      rw [decide_eq_false_iff_not]
      exact fun g => h ⟨g.1, g.2.1⟩
    rw [e]
    exact validIns_d op s n w (by omega)

end Go.Proofs.YtkikpcklccdihaaGreatDoor.Vp

/-
  impl.ValidProgram; eqInsS, eqProgram over two rows of the same instructions.
-/
namespace Go.Proofs.YtkikpcklccdihaaGreatDoor.Vp
open Go.RowKit

theorem Tab.below {w w' : World} {B : Nat} (h : Tab w) (hb : Below B w w') (hB : 0 < B) : Tab w' :=
  ⟨Nat.lt_of_lt_of_le h.1 hb.size, fun k hk => ⟨(hb.cell (p := ⟨0, _, none⟩) hB).trans (h.2 k hk).1, (hb.cell (p := ⟨0, _, none⟩) hB).trans (h.2 k hk).2⟩⟩

set_option maxHeartbeats 1000000 in
theorem implValid_no (a : Option Addr) (n cap : Nat) (f : Nat → Ins) (w : World) (hn : n ≤ 1048576) (h : (n : Int) < 1 ∨ 200 < (n : Int)) :
    Calls Tryz.prog 81 #[.agg #[.slice a n cap]] w fun e w' => e = .returned (.bool (valid f n)) ∧ Below w.heap.size w w' := by
  have e : valid f n = false := by
    unfold valid
    rw [show decide (1 ≤ (n : Int) ∧ (n : Int) ≤ 200) = false by simp; omega, Bool.and_false]
  rw [e]
  clear e
  rcases h with h | h
  all_goals
    go_enter Tryz.func81, Tryz.ntmps81
    go_wp2
    go_ret
    exact ⟨rfl, (Below.refl _ _).alloc (Nat.le_refl _) _⟩

set_option maxHeartbeats 1000000 in
theorem implValid_row (b off n cap : Nat) (f : Nat → Ins) (w : World) (h1 : 1 ≤ (n : Int)) (h2 : (n : Int) ≤ 200) (hb : b < w.heap.size) (hf : ∀ i, i < n → AtIns w b off i (f i)) (hT : Tab w) :
    Calls Tryz.prog 81 #[.agg #[.slice (some ⟨b, off, none⟩) n cap]] w fun e w' => e = .returned (.bool (valid f n)) ∧ Below w.heap.size w w' := by
  have HF := hide hf
  have HT := hide hT
  have hT0 := hT.1
  have HV : Hid (valid f n = okTo f n) := by
    show valid f n = okTo f n
    unfold valid
    rw [show decide (1 ≤ (n : Int) ∧ (n : Int) ≤ 200) = true by simp; omega, Bool.and_true]
  clear hf hT
  go_enter Tryz.func81, Tryz.ntmps81
  go_wp2
  go_loopw [18] (fun i wr => ∃ k : Nat, k ≤ n ∧ i = .int .i64 k ∧ okTo f k = true ∧ Below w.heap.size w wr) (fun i _ => n - (intOf i).toNat)
  case atStart => exact ⟨0, by omega, rfl, rfl, (Below.refl _ _).alloc (Nat.le_refl _) _⟩
  case round =>
    obtain ⟨k, hk, rfl, hok, hB⟩ := hrel
    have HB := hide hB
    have HK := hide hok
    have hsz : w.heap.size ≤ wr.heap.size := hB.size
    clear hB hok
    by_cases hlt : k < n
    · obtain ⟨c0, c1, c2⟩ := (HF.out k hlt).below HB.out hb
      go_wp2_with fail
      refine (validIns_any _ _ _ _ (HT.out.below (HB.out.alloc hsz _) hT0)).mono ?_
      rintro e w' ⟨rfl, hB'⟩
      have HB' : Hid (Below w.heap.size w w') := (HB.out.alloc hsz _).trans (hB'.mono (by simp; omega))
      clear hB' c0 c1 c2
      cases hi : insOk (f k).op (f k).s.size (f k).n with
      | false =>
        have HI := hide hi
        clear hi
        go_wp2
        go_ret
        refine ⟨ret_bool ?_, HB'.out⟩
        rw [HV.out, okTo_false hlt HI.out]
      | true =>
        have HI := hide hi
        clear hi
        go_wp2
        exact ⟨⟨k + 1, by omega, by go_num, by simp [okTo, HK.out, HI.out], HB'.out⟩, by simp [intOf]; omega⟩
    · have e : k = n := by omega
      subst e
      go_wp2
      go_ret
      exact ⟨ret_bool (by rw [HV.out, HK.out]), HB.out⟩

theorem implValid_any (b off n cap : Nat) (f : Nat → Ins) (w : World) (hn : n ≤ 1048576) (hb : b < w.heap.size) (hf : ∀ i, i < n → AtIns w b off i (f i)) (hT : Tab w) :
    Calls Tryz.prog 81 #[.agg #[.slice (some ⟨b, off, none⟩) n cap]] w fun e w' => e = .returned (.bool (valid f n)) ∧ Below w.heap.size w w' := by
  by_cases h : (n : Int) < 1 ∨ 200 < (n : Int)
  · exact implValid_no _ n cap f w hn h
  · exact implValid_row b off n cap f w (by omega) (by omega) hb hf hT

end Go.Proofs.YtkikpcklccdihaaGreatDoor.Vp

/-
  Data: Link: sizes, copies, comparisons. Written by tools/flat.py.
-/
namespace Go.Proofs.YtkikpcklccdihaaGreatDoor.Vp
open Go.RowKit

structure Link where
  name : ByteArray
  ask : Bool
  has : Bool
  at_ : Int

/-- The cells of element i of a row that begins at off in block b. -/
def AtLink (w : World) (b off i : Nat) (x : Link) : Prop :=
  w.cell? ⟨b, off + i * 4, none⟩ = some (.string x.name) ∧ w.cell? ⟨b, off + i * 4 + 1, none⟩ = some (.bool x.ask) ∧ w.cell? ⟨b, off + i * 4 + 2, none⟩ = some (.bool x.has) ∧ w.cell? ⟨b, off + i * 4 + 3, none⟩ = some (.int .i64 x.at_)
theorem AtLink.below {w w' : World} {B b off i : Nat} {x : Link} (h : AtLink w b off i x) (hb : Below B w w') (hB : b < B) : AtLink w' b off i x :=
  ⟨(hb.cell (p := ⟨b, _, none⟩) hB).trans h.1, (hb.cell (p := ⟨b, _, none⟩) hB).trans h.2.1, (hb.cell (p := ⟨b, _, none⟩) hB).trans h.2.2.1, (hb.cell (p := ⟨b, _, none⟩) hB).trans h.2.2.2⟩
/-- A row of n in block b, from off on. -/
def RowLink (w : World) (b off n : Nat) (f : Nat → Link) : Prop := b < w.heap.size ∧ ∀ i, i < n → AtLink w b off i (f i)
theorem RowLink.below {w w' : World} {B b off n : Nat} {f : Nat → Link} (h : RowLink w b off n f) (hb : Below B w w') (hB : w.heap.size ≤ B) : RowLink w' b off n f :=
  ⟨Nat.lt_of_lt_of_le h.1 hb.size, fun i hi => (h.2 i hi).below hb (Nat.lt_of_lt_of_le h.1 hB)⟩
theorem RowLink.setOther {w : World} {g n off : Nat} {f : Nat → Link} (h : RowLink w g off n f) (p : Addr) (hp : p.block ≠ g) (v : Value) : RowLink (w.setCell p v) g off n f := by
  refine ⟨by simpa using h.1, fun i hi => ?_⟩
  have h := h.2 i hi
  have far : ∀ o, (w.setCell p v).cell? ⟨g, o, none⟩ = w.cell? ⟨g, o, none⟩ := fun o => World.cell?_of_block (w := w) (a := ⟨g, o, none⟩) (Below.heap_setCell w p v g (fun e => hp e.symm))
  exact ⟨(far _).trans h.1, (far _).trans h.2.1, (far _).trans h.2.2.1, (far _).trans h.2.2.2⟩
/-- A slice: an empty one, or a row of n. -/
def SlLink (w : World) (a : Option Addr) (n : Nat) (f : Nat → Link) : Prop := n = 0 ∨ ∃ b off, a = some ⟨b, off, none⟩ ∧ RowLink w b off n f
theorem SlLink.below {w w' : World} {B : Nat} {a : Option Addr} {n : Nat} {f : Nat → Link} (h : SlLink w a n f) (hb : Below B w w') (hB : w.heap.size ≤ B) : SlLink w' a n f := by
  rcases h with h | ⟨b, off, hv, hr⟩
  · exact .inl h
  · exact .inr ⟨b, off, hv, hr.below hb hB⟩
theorem RowLink.sl {w : World} {b off n : Nat} {f : Nat → Link} (h : RowLink w b off n f) : SlLink w (some ⟨b, off, none⟩) n f := .inr ⟨b, off, rfl, h⟩

set_option maxHeartbeats 400000 in
theorem szLink_any (name : ByteArray) (ask : Bool) (has : Bool) (at_ : Int) (left : Int) (w : World) (hsname : name.size ≤ maxLen) (l0 : 0 ≤ left) (l1 : left ≤ 1048576) :
    Calls Tryz.prog 61 #[.agg #[.string name, .bool ask, .bool has, .int .i64 at_], .int .i64 left] w fun e w' => ∃ r : Int, e = .returned (.int .i64 r) ∧ -1 ≤ r ∧ r ≤ left ∧ Below w.heap.size w w' := by
  unfold maxLen at hsname
  go_enter Tryz.func61, Tryz.ntmps61
  go_wp2
  all_goals go_ret
  all_goals first
    | exact ⟨-1, rfl, by omega, by omega, (Below.refl _ _).alloc (Nat.le_refl _) _⟩
    | exact ⟨_, rfl, by omega, by omega, (Below.refl _ _).alloc (Nat.le_refl _) _⟩

set_option maxHeartbeats 400000 in
theorem szLinkS_big (a : Option Addr) (n cap : Nat) (left : Int) (w : World) (h0 : 0 ≤ left) (h1 : left ≤ 1048576) (hn : (n : Int) ≤ 9223372036854775807) (h : left < (n : Int)) :
    Calls Tryz.prog 44 #[.slice a n cap, .int .i64 left] w fun e w' => e = .returned (.int .i64 (-1)) ∧ w' = w := by
  go_enter Tryz.func44, Tryz.ntmps44
  go_wp2
  go_ret
  exact ⟨rfl, rfl⟩

set_option maxHeartbeats 1000000 in
theorem szLinkS_row (b off n cap : Nat) (f : Nat → Link) (left : Int) (w : World) (h0 : (n : Int) ≤ left) (h1 : left ≤ 1048576) (hb : b < w.heap.size) (hf : ∀ i, i < n → AtLink w b off i (f i)) (hs : ∀ i, i < n → (f i).name.size ≤ maxLen) :
    Calls Tryz.prog 44 #[.slice (some ⟨b, off, none⟩) n cap, .int .i64 left] w fun e w' => ∃ r : Int, e = .returned (.int .i64 r) ∧ -1 ≤ r ∧ r ≤ left ∧ Below w.heap.size w w' := by
  have HF := hide hf
  have HS := hide hs
  clear hf hs
  go_enter Tryz.func44, Tryz.ntmps44
  go_wp2
  go_loopw [1, 5] (fun l i wr => ∃ k : Nat, ∃ r : Int, k ≤ n ∧ 0 ≤ r ∧ r ≤ left ∧ i = .int .i64 k ∧ l = .int .i64 r ∧ Below w.heap.size w wr) (fun _ i _ => n - (intOf i).toNat)
  case atStart => exact ⟨0, left - n, by omega, by omega, by omega, rfl, rfl, Below.refl _ _⟩
  case round =>
    obtain ⟨k, r, hk, hr0, hr1, rfl, rfl, hB⟩ := hrel
    by_cases hlt : k < n
    · obtain ⟨c0, c1, c2, c3⟩ := (HF.out k hlt).below hB hb
      go_wp2_with (go_at_call 61; refine (szLink_any _ _ _ _ _ _ (HS.out k hlt) (by omega) (by omega)).mono ?_; rintro e w' ⟨r', rfl, hr2, hr3, hB'⟩)
      · go_ret
        exact ⟨-1, rfl, by omega, by omega, hB.trans (hB'.mono hB.size)⟩
      · exact ⟨⟨k + 1, r', by omega, by omega, by omega, by go_num, rfl, hB.trans (hB'.mono hB.size)⟩, by simp [intOf]; omega⟩
    · go_wp2
      go_ret
      exact ⟨r, rfl, by omega, by omega, hB⟩

set_option maxHeartbeats 400000 in
theorem szLinkS_nil (a : Option Addr) (cap : Nat) (left : Int) (w : World) (h0 : 0 ≤ left) (h1 : left ≤ 1048576) :
    Calls Tryz.prog 44 #[.slice a 0 cap, .int .i64 left] w fun e w' => e = .returned (.int .i64 left) ∧ w' = w := by
  go_enter Tryz.func44, Tryz.ntmps44
  go_wp2
  go_loop [1, 5] (fun l i => l = .int .i64 left ∧ i = .int .i64 0) (fun _ _ => 0)
  case atStart => exact ⟨by simp, rfl⟩
  case round =>
    obtain ⟨rfl, rfl⟩ := hrel
    go_wp2
    go_ret
    exact ⟨rfl, rfl⟩

theorem szLinkS_any (a : Option Addr) (n cap : Nat) (f : Nat → Link) (left : Int) (w : World) (h0 : 0 ≤ left) (h1 : left ≤ 1048576) (hn : (n : Int) ≤ 9223372036854775807) (hv : SlLink w a n f) (hs : ∀ i, i < n → (f i).name.size ≤ maxLen) :
    Calls Tryz.prog 44 #[.slice a n cap, .int .i64 left] w fun e w' => ∃ r : Int, e = .returned (.int .i64 r) ∧ -1 ≤ r ∧ r ≤ left ∧ (0 ≤ r → (n : Int) ≤ left) ∧ Below w.heap.size w w' := by
  rcases hv with rfl | ⟨b, off, rfl, hl, hc⟩
  · exact (szLinkS_nil a cap left w h0 h1).mono fun e w' ⟨a, b⟩ => ⟨_, a, by omega, by omega, fun _ => by omega, by rw [b]; exact Below.refl _ _⟩
  · by_cases h : (n : Int) ≤ left
    · exact (szLinkS_row b off n cap f left w h h1 hl hc hs).mono fun e w' ⟨r, a, b, c, d⟩ => ⟨r, a, b, c, fun _ => h, d⟩
    · exact (szLinkS_big _ n cap left w h0 h1 hn (by omega)).mono fun e w' ⟨a, b⟩ => ⟨_, a, by omega, by omega, fun _ => by omega, by rw [b]; exact Below.refl _ _⟩

theorem infoLink : (Tryz.prog.info? 78).map (fun i => (i.zero, i.size, i.bytes)) = some (some (.agg #[.string ⟨#[]⟩, .bool false, .bool false, .int .i64 0]), 4, 32) := by kernel_rfl
def zerosLink (n : Nat) : Array Value := madeCells (Value.agg #[.string ⟨#[]⟩, .bool false, .bool false, .int .i64 0]).cells (n * 4)
theorem mkLink (n : Nat) (hn : n ≤ 1048576) (w : World) : (Instr.makeSlice 74 (.int .i64 (n : Int)) (.int .i64 (n : Int))).run Tryz.prog w = .ok (.slice (some ⟨w.heap.size, 0, none⟩) n n) (w.alloc (.cells (zerosLink n) 78)) := by
  obtain ⟨i, hi, hz⟩ := Option.map_eq_some_iff.1 infoLink
  simp only [Prod.mk.injEq] at hz
  obtain ⟨h1, h2, h3⟩ := hz
  have h := run_make (P := Tryz.prog) w 74 78 i _ Tryz.underlying74 hi h1 .i64 .i64 n n (by omega) (Int.le_refl _) (by rw [h3]; omega) (by omega)
  rw [h2] at h
  simpa [zerosLink] using h

/-- Block g is a row of n elements' cells; the first k are those of f. -/
def OwnLink (w : World) (g n k : Nat) (f : Nat → Link) : Prop :=
  ∃ F, w.rowIs g 78 (n * 4) F ∧ ∀ i, i < k → F (i * 4) = .string (f i).name ∧ F (i * 4 + 1) = .bool (f i).ask ∧ F (i * 4 + 2) = .bool (f i).has ∧ F (i * 4 + 3) = .int .i64 (f i).at_
theorem ownLink_start (w : World) (n : Nat) (f : Nat → Link) : OwnLink (w.alloc (.cells (zerosLink n) 78)) w.heap.size n 0 f := by
  have hz : (zerosLink n).size = n * 4 := size_madeCells _ _
  have h := World.rowIs_alloc w (zerosLink n) 78 (fun i => (zerosLink n)[i]?.getD undef) (fun i hi => by rw [Array.getElem?_eq_getElem hi]; rfl)
  rw [hz] at h
  exact ⟨_, h, fun i hi => absurd hi (Nat.not_lt_zero _)⟩
theorem OwnLink.step {w : World} {g n k : Nat} {f : Nat → Link} (h : OwnLink w g n k f) :
    OwnLink ((((w.setCell ⟨g, k * 4, none⟩ (.string (f k).name)).setCell ⟨g, k * 4 + 1, none⟩ (.bool (f k).ask)).setCell ⟨g, k * 4 + 2, none⟩ (.bool (f k).has)).setCell ⟨g, k * 4 + 3, none⟩ (.int .i64 (f k).at_)) g n (k + 1) f := by
  obtain ⟨F, hr, hF⟩ := h
  refine ⟨_, ((((hr.set _ _).set _ _).set _ _).set _ _), fun i hi => ?_⟩
  by_cases e : i = k
  · subst e
    exact ⟨by simp, by simp, by simp, by simp⟩
  · have h := hF i (by omega)
    refine ⟨?_, ?_, ?_, ?_⟩
    · show (if _ then _ else if _ then _ else if _ then _ else if _ then _ else _) = _
      rw [if_neg (by omega), if_neg (by omega), if_neg (by omega), if_neg (by omega), h.1]
    · show (if _ then _ else if _ then _ else if _ then _ else if _ then _ else _) = _
      rw [if_neg (by omega), if_neg (by omega), if_neg (by omega), if_neg (by omega), h.2.1]
    · show (if _ then _ else if _ then _ else if _ then _ else if _ then _ else _) = _
      rw [if_neg (by omega), if_neg (by omega), if_neg (by omega), if_neg (by omega), h.2.2.1]
    · show (if _ then _ else if _ then _ else if _ then _ else if _ then _ else _) = _
      rw [if_neg (by omega), if_neg (by omega), if_neg (by omega), if_neg (by omega), h.2.2.2]
theorem OwnLink.below {w w' : World} {g n k : Nat} {f : Nat → Link} {B : Nat} (h : OwnLink w g n k f) (hb : Below B w w') (hB : g < B) : OwnLink w' g n k f := by
  obtain ⟨F, hr, hF⟩ := h
  exact ⟨F, hr.of_block (hb.block g hB), hF⟩
theorem OwnLink.row {w : World} {g n : Nat} {f : Nat → Link} (h : OwnLink w g n n f) : RowLink w g 0 n f := by
  obtain ⟨F, hr, hF⟩ := h
  refine ⟨hr.lt, fun i hi => ?_⟩
  have h := hF i hi
  refine ⟨?_, ?_, ?_, ?_⟩
  · rw [Nat.zero_add, hr.cell (by omega), h.1]
  · rw [Nat.zero_add, hr.cell (by omega), h.2.1]
  · rw [Nat.zero_add, hr.cell (by omega), h.2.2.1]
  · rw [Nat.zero_add, hr.cell (by omega), h.2.2.2]

set_option maxHeartbeats 400000 in
theorem toLink_any (name : ByteArray) (ask : Bool) (has : Bool) (at_ : Int) (w : World) :
    Calls Tryz.prog 67 #[.agg #[.string name, .bool ask, .bool has, .int .i64 at_]] w fun e w' => e = .returned (.agg #[.string name, .bool ask, .bool has, .int .i64 at_]) ∧ Below w.heap.size w w' := by
  go_enter Tryz.func67, Tryz.ntmps67
  go_wp2
  refine bodyPost_ret (v := .agg #[.string name, .bool ask, .bool has, .int .i64 at_]) (by simp [results, Tryz.results67, go_sem]) rfl ⟨rfl, ?_⟩
  exact (((Below.refl _ _).alloc (Nat.le_refl _) _).alloc (by simp) _).alloc (by simp; omega) _

set_option maxHeartbeats 1000000 in
theorem toLinkS_row (b off n cap : Nat) (f : Nat → Link) (w : World) (hn : n ≤ 1048576) (hb : b < w.heap.size) (hf : ∀ i, i < n → AtLink w b off i (f i)) :
    Calls Tryz.prog 48 #[.slice (some ⟨b, off, none⟩) n cap] w fun e w' => ∃ g, e = .returned (.slice (some ⟨g, 0, none⟩) n n) ∧ RowLink w' g 0 n f ∧ w.heap.size ≤ g ∧ Below w.heap.size w w' := by
  have HF := hide hf
  clear hf
  have hmk := mkLink n hn
  go_enter Tryz.func48, Tryz.ntmps48
  go_wp2
  clear hmk
  go_loopw [4] (fun i wr => ∃ k : Nat, k ≤ n ∧ i = .int .i64 k ∧ OwnLink wr w.heap.size n k f ∧ Below w.heap.size w wr) (fun i _ => n - (intOf i).toNat)
  case atStart => exact ⟨0, by omega, rfl, ownLink_start w n f, (Below.refl _ _).alloc (Nat.le_refl _) _⟩
  case round =>
    obtain ⟨k, hk, rfl, hO, hB⟩ := hrel
    have HO := hide hO
    by_cases hlt : k < n
    · obtain ⟨c0, c1, c2, c3⟩ := (HF.out k hlt).below hB hb
      clear hO
      go_wp2_with fail
      refine (toLink_any _ _ _ _ _).mono ?_
      rintro e w1 ⟨rfl, hB1⟩
      have HO1 : Hid (OwnLink w1 w.heap.size n k f) := HO.out.below hB1 (by obtain ⟨F, hr, _⟩ := HO.out; exact hr.lt)
      obtain ⟨F, hr, _⟩ := HO1.out
      have d0 := hr.cell (i := k * 4) (by omega)
      have z0 := hr.frozen (k * 4)
      have d1 := hr.cell (i := k * 4 + 1) (by omega)
      have z1 := hr.frozen (k * 4 + 1)
      have d2 := hr.cell (i := k * 4 + 2) (by omega)
      have z2 := hr.frozen (k * 4 + 2)
      have d3 := hr.cell (i := k * 4 + 3) (by omega)
      have z3 := hr.frozen (k * 4 + 3)
      clear hr c0 c1 c2 c3
      go_wp2
      exact ⟨⟨k + 1, by omega, by go_num, HO1.out.step, ((((hB.trans (hB1.mono hB.size)).setCell (Nat.le_refl _) _).setCell (Nat.le_refl _) _).setCell (Nat.le_refl _) _).setCell (Nat.le_refl _) _⟩, by simp [intOf]; omega⟩
    · have e : k = n := by omega
      subst e
      clear hO
      go_wp2
      go_ret
      exact ⟨_, rfl, HO.out.row, Nat.le_refl _, hB⟩

set_option maxHeartbeats 1000000 in
theorem toLinkS_nil (a : Option Addr) (cap : Nat) (f : Nat → Link) (w : World) :
    Calls Tryz.prog 48 #[.slice a 0 cap] w fun e w' => ∃ g, e = .returned (.slice (some ⟨g, 0, none⟩) 0 0) ∧ RowLink w' g 0 0 f ∧ w.heap.size ≤ g ∧ Below w.heap.size w w' := by
  have hmk : ∀ w : World, (Instr.makeSlice 74 (.int .i64 0) (.int .i64 0)).run Tryz.prog w = .ok (.slice (some ⟨w.heap.size, 0, none⟩) 0 0) (w.alloc (.cells (zerosLink 0) 78)) := fun w => mkLink 0 (by omega) w
  go_enter Tryz.func48, Tryz.ntmps48
  go_wp2
  clear hmk
  go_loop [4] (fun i => i = .int .i64 0) (fun _ => 0)
  case atStart => rfl
  case round =>
    subst hrel
    go_wp2
    go_ret
    exact ⟨_, rfl, (ownLink_start w 0 f).row, Nat.le_refl _, (Below.refl _ _).alloc (Nat.le_refl _) _⟩

theorem toLinkS_any (a : Option Addr) (n cap : Nat) (f : Nat → Link) (w : World) (hn : n ≤ 1048576) (hv : SlLink w a n f) :
    Calls Tryz.prog 48 #[.slice a n cap] w fun e w' => ∃ g, e = .returned (.slice (some ⟨g, 0, none⟩) n n) ∧ RowLink w' g 0 n f ∧ w.heap.size ≤ g ∧ Below w.heap.size w w' := by
  rcases hv with rfl | ⟨b, off, rfl, hl, hc⟩
  · exact toLinkS_nil a cap f w
  · exact toLinkS_row b off n cap f w hn hl hc

set_option maxHeartbeats 400000 in
theorem eqLink_same (name : ByteArray) (ask : Bool) (has : Bool) (at_ : Int) (w : World) :
    Calls Tryz.prog 75 #[.agg #[.string name, .bool ask, .bool has, .int .i64 at_], .agg #[.string name, .bool ask, .bool has, .int .i64 at_]] w fun e w' => e = .returned (.bool true) ∧ Below w.heap.size w w' := by
  go_enter Tryz.func75, Tryz.ntmps75
  go_wp2
  go_ret
  exact ⟨rfl, ((Below.refl _ _).alloc (Nat.le_refl _) _).alloc (by simp) _⟩

set_option maxHeartbeats 1000000 in
theorem eqLinkS_row (b off cap b2 off2 cap2 n : Nat) (f : Nat → Link) (w : World) (hn : n ≤ 1048576) (hb : b < w.heap.size) (hf : ∀ i, i < n → AtLink w b off i (f i)) (hb2 : b2 < w.heap.size) (hf2 : ∀ i, i < n → AtLink w b2 off2 i (f i)) :
    Calls Tryz.prog 59 #[.slice (some ⟨b, off, none⟩) n cap, .slice (some ⟨b2, off2, none⟩) n cap2] w fun e w' => e = .returned (.bool true) ∧ Below w.heap.size w w' := by
  have HF := hide hf
  have HF2 := hide hf2
  clear hf hf2
  go_enter Tryz.func59, Tryz.ntmps59
  go_wp2
  go_loopw [5] (fun i wr => ∃ k : Nat, k ≤ n ∧ i = .int .i64 k ∧ Below w.heap.size w wr) (fun i _ => n - (intOf i).toNat)
  case atStart => exact ⟨0, by omega, rfl, Below.refl _ _⟩
  case round =>
    obtain ⟨k, hk, rfl, hB⟩ := hrel
    have HB := hide hB
    have hsz : w.heap.size ≤ wr.heap.size := hB.size
    clear hB
    by_cases hlt : k < n
    · obtain ⟨c0, c1, c2, c3⟩ := (HF.out k hlt).below HB.out hb
      obtain ⟨d0, d1, d2, d3⟩ := (HF2.out k hlt).below HB.out hb2
      go_wp2_with fail
      go_region_with (go_at_call 75; refine (eqLink_same _ _ _ _ _).mono ?_; rintro e w' ⟨rfl, hB'⟩)
      all_goals
        go_wp2
        exact ⟨⟨k + 1, by omega, by go_num, Below.trans (by repeat (first | exact HB.out | apply Below.drew)) (hB'.mono hsz)⟩, by simp [intOf]; omega⟩
    · have e : k = n := by omega
      subst e
      go_wp2
      go_ret
      exact ⟨rfl, HB.out⟩

set_option maxHeartbeats 1000000 in
theorem eqLinkS_nil (a a2 : Option Addr) (cap cap2 : Nat) (w : World) :
    Calls Tryz.prog 59 #[.slice a 0 cap, .slice a2 0 cap2] w fun e w' => e = .returned (.bool true) ∧ w' = w := by
  go_enter Tryz.func59, Tryz.ntmps59
  go_wp2
  go_loop [5] (fun i => i = .int .i64 0) (fun _ => 0)
  case atStart => rfl
  case round =>
    subst hrel
    go_wp2
    go_ret
    exact ⟨rfl, rfl⟩

/-- The same elements: equal. -/
theorem eqLinkS_any (a a2 : Option Addr) (cap cap2 n : Nat) (f : Nat → Link) (w : World) (hn : n ≤ 1048576) (h : SlLink w a n f) (h2 : SlLink w a2 n f) :
    Calls Tryz.prog 59 #[.slice a n cap, .slice a2 n cap2] w fun e w' => e = .returned (.bool true) ∧ Below w.heap.size w w' := by
  by_cases hz : n = 0
  · subst hz
    exact (eqLinkS_nil a a2 cap cap2 w).mono fun _ _ ⟨a, b⟩ => ⟨a, by rw [b]; exact Below.refl _ _⟩
  · rcases h with h | ⟨b, off, rfl, hb, hf⟩
    · exact absurd h hz
    · rcases h2 with h | ⟨b2, off2, rfl, hb2, hf2⟩
      · exact absurd h hz
      · exact eqLinkS_row b off cap b2 off2 cap2 n f w hn hb hf hb2 hf2

end Go.Proofs.YtkikpcklccdihaaGreatDoor.Vp
