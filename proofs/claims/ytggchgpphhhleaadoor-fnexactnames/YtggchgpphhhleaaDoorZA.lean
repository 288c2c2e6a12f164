/-
  Put together of: DBase, DIns, DMark, DMark2, MIns, DLink, MLink, MTouch, DProgram, DDeed, DAccount, DOwnP, DOwnA.
-/
import Derived.Test.YtggchgpphhhleaaDoorProg
import Derived.WalkKit
import Derived.WalkSpells
import Derived.WalkLawsBesides
import Derived.Deep.OwnRows
import Derived.Deep.RegionWith
import Derived.Deep.QuietTactic
import Derived.BigQuiet
import Derived.Lib.ItoaNum
import Derived.Lib.ItoaLen
import Derived.Lib.ItoaMem

/-
  Small facts that all data texts use.
-/
namespace Go.Proofs.YtggchgpphhhleaaDoor.Vp
open Go.RowKit

theorem hide {p : Prop} (h : p) : Hid p := h
theorem bcell {W w1 : World} (hb : Below W.heap.size W w1) : (∀ b o, b < W.heap.size → w1.cell? ⟨b, o, none⟩ = W.cell? ⟨b, o, none⟩) ∧ (∀ b o, b < W.heap.size → w1.frozen? ⟨b, o, none⟩ = W.frozen? ⟨b, o, none⟩) :=
  ⟨fun b o h => hb.cell (p := ⟨b, o, none⟩) h, fun b o h => hb.frozen (p := ⟨b, o, none⟩) h⟩
theorem cell_far (w : World) (p a : Addr) (v : Value) (h : p.block ≠ a.block) : (w.setCell p v).cell? a = w.cell? a :=
  World.cell?_of_block (w := w) (a := a) (Below.heap_setCell w p v a.block (fun e => h e.symm))
theorem ret_bool {a b : Bool} (h : a = b) : Ending.returned (.bool a) = .returned (.bool b) := by rw [h]
theorem ret_str {a b : ByteArray} (h : a = b) : Ending.returned (.string a) = .returned (.string b) := by rw [h]
theorem empty_of_size {s : ByteArray} (h : s.size = 0) : s = ⟨#[]⟩ := by
  obtain ⟨a⟩ := s
  have : a.size = 0 := h
  rw [Array.eq_empty_of_size_eq_zero this]
theorem toList_ne {s : ByteArray} (h : ¬ s.size = 0) : ¬ s.toList = [] := by
  intro e
  have h2 : s.toList.length = s.size := by rw [ByteArray.toList_eq]; rfl
  rw [e] at h2
  simp at h2
  omega

end Go.Proofs.YtggchgpphhhleaaDoor.Vp

/-
  Data: Ins: sizes, copies, comparisons. Written by tools/flat.py.
-/
namespace Go.Proofs.YtggchgpphhhleaaDoor.Vp
open Go.RowKit

structure Ins where
  op : Int
  s : ByteArray
  n : Int

/-- The cells of element i of a row that begins at off in block b. -/
def AtIns (w : World) (b off i : Nat) (x : Ins) : Prop :=
  w.cell? ⟨b, off + i * 3, none⟩ = some (.int .i64 x.op) ∧ w.cell? ⟨b, off + i * 3 + 1, none⟩ = some (.string x.s) ∧ w.cell? ⟨b, off + i * 3 + 2, none⟩ = some (.int .i64 x.n)
theorem AtIns.below {w w' : World} {B b off i : Nat} {x : Ins} (h : AtIns w b off i x) (hb : Below B w w') (hB : b < B) : AtIns w' b off i x :=
  ⟨(hb.cell (p := ⟨b, _, none⟩) hB).trans h.1, (hb.cell (p := ⟨b, _, none⟩) hB).trans h.2.1, (hb.cell (p := ⟨b, _, none⟩) hB).trans h.2.2⟩
/-- A row of n in block b, from off on. -/
def RowIns (w : World) (b off n : Nat) (f : Nat → Ins) : Prop := b < w.heap.size ∧ ∀ i, i < n → AtIns w b off i (f i)
theorem RowIns.below {w w' : World} {B b off n : Nat} {f : Nat → Ins} (h : RowIns w b off n f) (hb : Below B w w') (hB : w.heap.size ≤ B) : RowIns w' b off n f :=
  ⟨Nat.lt_of_lt_of_le h.1 hb.size, fun i hi => (h.2 i hi).below hb (Nat.lt_of_lt_of_le h.1 hB)⟩
theorem RowIns.setOther {w : World} {g n off : Nat} {f : Nat → Ins} (h : RowIns w g off n f) (p : Addr) (hp : p.block ≠ g) (v : Value) : RowIns (w.setCell p v) g off n f := by
  refine ⟨by simpa using h.1, fun i hi => ?_⟩
  have h := h.2 i hi
  have far : ∀ o, (w.setCell p v).cell? ⟨g, o, none⟩ = w.cell? ⟨g, o, none⟩ := fun o => World.cell?_of_block (w := w) (a := ⟨g, o, none⟩) (Below.heap_setCell w p v g (fun e => hp e.symm))
  exact ⟨(far _).trans h.1, (far _).trans h.2.1, (far _).trans h.2.2⟩
/-- A slice: an empty one, or a row of n. -/
def SlIns (w : World) (a : Option Addr) (n : Nat) (f : Nat → Ins) : Prop := n = 0 ∨ ∃ b off, a = some ⟨b, off, none⟩ ∧ RowIns w b off n f
theorem SlIns.below {w w' : World} {B : Nat} {a : Option Addr} {n : Nat} {f : Nat → Ins} (h : SlIns w a n f) (hb : Below B w w') (hB : w.heap.size ≤ B) : SlIns w' a n f := by
  rcases h with h | ⟨b, off, hv, hr⟩
  · exact .inl h
  · exact .inr ⟨b, off, hv, hr.below hb hB⟩
theorem RowIns.sl {w : World} {b off n : Nat} {f : Nat → Ins} (h : RowIns w b off n f) : SlIns w (some ⟨b, off, none⟩) n f := .inr ⟨b, off, rfl, h⟩

set_option maxHeartbeats 400000 in
theorem szIns_any (op : Int) (s : ByteArray) (n : Int) (left : Int) (w : World) (hss : s.size ≤ maxLen) (l0 : 0 ≤ left) (l1 : left ≤ 1048576) :
    Calls Tryd.prog 95 #[.agg #[.int .i64 op, .string s, .int .i64 n], .int .i64 left] w fun e w' => ∃ r : Int, e = .returned (.int .i64 r) ∧ -1 ≤ r ∧ r ≤ left ∧ Below w.heap.size w w' := by
  unfold maxLen at hss
  go_enter Tryd.func95, Tryd.ntmps95
  go_wp2
  all_goals go_ret
  all_goals first
    | exact ⟨-1, rfl, by omega, by omega, (Below.refl _ _).alloc (Nat.le_refl _) _⟩
    | exact ⟨_, rfl, by omega, by omega, (Below.refl _ _).alloc (Nat.le_refl _) _⟩

set_option maxHeartbeats 400000 in
theorem szInsS_big (a : Option Addr) (n cap : Nat) (left : Int) (w : World) (h0 : 0 ≤ left) (h1 : left ≤ 1048576) (hn : (n : Int) ≤ 9223372036854775807) (h : left < (n : Int)) :
    Calls Tryd.prog 83 #[.slice a n cap, .int .i64 left] w fun e w' => e = .returned (.int .i64 (-1)) ∧ w' = w := by
  go_enter Tryd.func83, Tryd.ntmps83
  go_wp2
  go_ret
  exact ⟨rfl, rfl⟩

set_option maxHeartbeats 1000000 in
theorem szInsS_row (b off n cap : Nat) (f : Nat → Ins) (left : Int) (w : World) (h0 : (n : Int) ≤ left) (h1 : left ≤ 1048576) (hb : b < w.heap.size) (hf : ∀ i, i < n → AtIns w b off i (f i)) (hs : ∀ i, i < n → (f i).s.size ≤ maxLen) :
    Calls Tryd.prog 83 #[.slice (some ⟨b, off, none⟩) n cap, .int .i64 left] w fun e w' => ∃ r : Int, e = .returned (.int .i64 r) ∧ -1 ≤ r ∧ r ≤ left ∧ Below w.heap.size w w' := by
  have HF := hide hf
  have HS := hide hs
  clear hf hs
  go_enter Tryd.func83, Tryd.ntmps83
  go_wp2
  go_loopw [1, 5] (fun l i wr => ∃ k : Nat, ∃ r : Int, k ≤ n ∧ 0 ≤ r ∧ r ≤ left ∧ i = .int .i64 k ∧ l = .int .i64 r ∧ Below w.heap.size w wr) (fun _ i _ => n - (intOf i).toNat)
  case atStart => exact ⟨0, left - n, by omega, by omega, by omega, rfl, rfl, Below.refl _ _⟩
  case round =>
    obtain ⟨k, r, hk, hr0, hr1, rfl, rfl, hB⟩ := hrel
    by_cases hlt : k < n
    · obtain ⟨c0, c1, c2⟩ := (HF.out k hlt).below hB hb
      go_wp2_with (go_at_call 95; refine (szIns_any _ _ _ _ _ (HS.out k hlt) (by omega) (by omega)).mono ?_; rintro e w' ⟨r', rfl, hr2, hr3, hB'⟩)
      · go_ret
        exact ⟨-1, rfl, by omega, by omega, hB.trans (hB'.mono hB.size)⟩
      · exact ⟨⟨k + 1, r', by omega, by omega, by omega, by go_num, rfl, hB.trans (hB'.mono hB.size)⟩, by simp [intOf]; omega⟩
    · go_wp2
      go_ret
      exact ⟨r, rfl, by omega, by omega, hB⟩

set_option maxHeartbeats 400000 in
theorem szInsS_nil (a : Option Addr) (cap : Nat) (left : Int) (w : World) (h0 : 0 ≤ left) (h1 : left ≤ 1048576) :
    Calls Tryd.prog 83 #[.slice a 0 cap, .int .i64 left] w fun e w' => e = .returned (.int .i64 left) ∧ w' = w := by
  go_enter Tryd.func83, Tryd.ntmps83
  go_wp2
  go_loop [1, 5] (fun l i => l = .int .i64 left ∧ i = .int .i64 0) (fun _ _ => 0)
  case atStart => exact ⟨by simp, rfl⟩
  case round =>
    obtain ⟨rfl, rfl⟩ := hrel
    go_wp2
    go_ret
    exact ⟨rfl, rfl⟩

theorem szInsS_any (a : Option Addr) (n cap : Nat) (f : Nat → Ins) (left : Int) (w : World) (h0 : 0 ≤ left) (h1 : left ≤ 1048576) (hn : (n : Int) ≤ 9223372036854775807) (hv : SlIns w a n f) (hs : ∀ i, i < n → (f i).s.size ≤ maxLen) :
    Calls Tryd.prog 83 #[.slice a n cap, .int .i64 left] w fun e w' => ∃ r : Int, e = .returned (.int .i64 r) ∧ -1 ≤ r ∧ r ≤ left ∧ (0 ≤ r → (n : Int) ≤ left) ∧ Below w.heap.size w w' := by
  rcases hv with rfl | ⟨b, off, rfl, hl, hc⟩
  · exact (szInsS_nil a cap left w h0 h1).mono fun e w' ⟨a, b⟩ => ⟨_, a, by omega, by omega, fun _ => by omega, by rw [b]; exact Below.refl _ _⟩
  · by_cases h : (n : Int) ≤ left
    · exact (szInsS_row b off n cap f left w h h1 hl hc hs).mono fun e w' ⟨r, a, b, c, d⟩ => ⟨r, a, b, c, fun _ => h, d⟩
    · exact (szInsS_big _ n cap left w h0 h1 hn (by omega)).mono fun e w' ⟨a, b⟩ => ⟨_, a, by omega, by omega, fun _ => by omega, by rw [b]; exact Below.refl _ _⟩

theorem infoIns : (Tryd.prog.info? 122).map (fun i => (i.zero, i.size, i.bytes)) = some (some (.agg #[.int .i64 0, .string ⟨#[]⟩, .int .i64 0]), 3, 32) := by kernel_rfl
def zerosIns (n : Nat) : Array Value := madeCells (Value.agg #[.int .i64 0, .string ⟨#[]⟩, .int .i64 0]).cells (n * 3)
theorem mkIns (n : Nat) (hn : n ≤ 1048576) (w : World) : (Instr.makeSlice 54 (.int .i64 (n : Int)) (.int .i64 (n : Int))).run Tryd.prog w = .ok (.slice (some ⟨w.heap.size, 0, none⟩) n n) (w.alloc (.cells (zerosIns n) 122)) := by
  obtain ⟨i, hi, hz⟩ := Option.map_eq_some_iff.1 infoIns
  simp only [Prod.mk.injEq] at hz
  obtain ⟨h1, h2, h3⟩ := hz
  have h := run_make (P := Tryd.prog) w 54 122 i _ Tryd.underlying54 hi h1 .i64 .i64 n n (by omega) (Int.le_refl _) (by rw [h3]; omega) (by omega)
  rw [h2] at h
  simpa [zerosIns] using h

/-- Block g is a row of n elements' cells; the first k are those of f. -/
def OwnIns (w : World) (g n k : Nat) (f : Nat → Ins) : Prop :=
  ∃ F, w.rowIs g 122 (n * 3) F ∧ ∀ i, i < k → F (i * 3) = .int .i64 (f i).op ∧ F (i * 3 + 1) = .string (f i).s ∧ F (i * 3 + 2) = .int .i64 (f i).n
theorem ownIns_start (w : World) (n : Nat) (f : Nat → Ins) : OwnIns (w.alloc (.cells (zerosIns n) 122)) w.heap.size n 0 f := by
  have hz : (zerosIns n).size = n * 3 := size_madeCells _ _
  have h := World.rowIs_alloc w (zerosIns n) 122 (fun i => (zerosIns n)[i]?.getD undef) (fun i hi => by rw [Array.getElem?_eq_getElem hi]; rfl)
  rw [hz] at h
  exact ⟨_, h, fun i hi => absurd hi (Nat.not_lt_zero _)⟩
theorem OwnIns.step {w : World} {g n k : Nat} {f : Nat → Ins} (h : OwnIns w g n k f) :
    OwnIns (((w.setCell ⟨g, k * 3, none⟩ (.int .i64 (f k).op)).setCell ⟨g, k * 3 + 1, none⟩ (.string (f k).s)).setCell ⟨g, k * 3 + 2, none⟩ (.int .i64 (f k).n)) g n (k + 1) f := by
  obtain ⟨F, hr, hF⟩ := h
  refine ⟨_, (((hr.set _ _).set _ _).set _ _), fun i hi => ?_⟩
  by_cases e : i = k
  · subst e
    exact ⟨by simp, by simp, by simp⟩
  · have h := hF i (by omega)
    refine ⟨?_, ?_, ?_⟩
    · show (if _ then _ else if _ then _ else if _ then _ else _) = _
      rw [if_neg (by omega), if_neg (by omega), if_neg (by omega), h.1]
    · show (if _ then _ else if _ then _ else if _ then _ else _) = _
      rw [if_neg (by omega), if_neg (by omega), if_neg (by omega), h.2.1]
    · show (if _ then _ else if _ then _ else if _ then _ else _) = _
      rw [if_neg (by omega), if_neg (by omega), if_neg (by omega), h.2.2]
theorem OwnIns.below {w w' : World} {g n k : Nat} {f : Nat → Ins} {B : Nat} (h : OwnIns w g n k f) (hb : Below B w w') (hB : g < B) : OwnIns w' g n k f := by
  obtain ⟨F, hr, hF⟩ := h
  exact ⟨F, hr.of_block (hb.block g hB), hF⟩
theorem OwnIns.row {w : World} {g n : Nat} {f : Nat → Ins} (h : OwnIns w g n n f) : RowIns w g 0 n f := by
  obtain ⟨F, hr, hF⟩ := h
  refine ⟨hr.lt, fun i hi => ?_⟩
  have h := hF i hi
  refine ⟨?_, ?_, ?_⟩
  · rw [Nat.zero_add, hr.cell (by omega), h.1]
  · rw [Nat.zero_add, hr.cell (by omega), h.2.1]
  · rw [Nat.zero_add, hr.cell (by omega), h.2.2]

set_option maxHeartbeats 400000 in
theorem toIns_any (op : Int) (s : ByteArray) (n : Int) (w : World) :
    Calls Tryd.prog 97 #[.agg #[.int .i64 op, .string s, .int .i64 n]] w fun e w' => e = .returned (.agg #[.int .i64 op, .string s, .int .i64 n]) ∧ Below w.heap.size w w' := by
  go_enter Tryd.func97, Tryd.ntmps97
  go_wp2
  refine bodyPost_ret (v := .agg #[.int .i64 op, .string s, .int .i64 n]) (by simp [results, Tryd.results97, go_sem]) rfl ⟨rfl, ?_⟩
  exact (((Below.refl _ _).alloc (Nat.le_refl _) _).alloc (by simp) _).alloc (by simp; omega) _

set_option maxHeartbeats 1000000 in
theorem toInsS_row (b off n cap : Nat) (f : Nat → Ins) (w : World) (hn : n ≤ 1048576) (hb : b < w.heap.size) (hf : ∀ i, i < n → AtIns w b off i (f i)) :
    Calls Tryd.prog 86 #[.slice (some ⟨b, off, none⟩) n cap] w fun e w' => ∃ g, e = .returned (.slice (some ⟨g, 0, none⟩) n n) ∧ RowIns w' g 0 n f ∧ w.heap.size ≤ g ∧ Below w.heap.size w w' := by
  have HF := hide hf
  clear hf
  have hmk := mkIns n hn
  go_enter Tryd.func86, Tryd.ntmps86
  go_wp2
  clear hmk
  go_loopw [4] (fun i wr => ∃ k : Nat, k ≤ n ∧ i = .int .i64 k ∧ OwnIns wr w.heap.size n k f ∧ Below w.heap.size w wr) (fun i _ => n - (intOf i).toNat)
  case atStart => exact ⟨0, by omega, rfl, ownIns_start w n f, (Below.refl _ _).alloc (Nat.le_refl _) _⟩
  case round =>
    obtain ⟨k, hk, rfl, hO, hB⟩ := hrel
    have HO := hide hO
    by_cases hlt : k < n
    · obtain ⟨c0, c1, c2⟩ := (HF.out k hlt).below hB hb
      clear hO
      go_wp2_with fail
      refine (toIns_any _ _ _ _).mono ?_
      rintro e w1 ⟨rfl, hB1⟩
      have HO1 : Hid (OwnIns w1 w.heap.size n k f) := HO.out.below hB1 (by obtain ⟨F, hr, _⟩ := HO.out; exact hr.lt)
      obtain ⟨F, hr, _⟩ := HO1.out
      have d0 := hr.cell (i := k * 3) (by omega)
      have z0 := hr.frozen (k * 3)
      have d1 := hr.cell (i := k * 3 + 1) (by omega)
      have z1 := hr.frozen (k * 3 + 1)
      have d2 := hr.cell (i := k * 3 + 2) (by omega)
      have z2 := hr.frozen (k * 3 + 2)
      clear hr c0 c1 c2
      go_wp2
      exact ⟨⟨k + 1, by omega, by go_num, HO1.out.step, (((hB.trans (hB1.mono hB.size)).setCell (Nat.le_refl _) _).setCell (Nat.le_refl _) _).setCell (Nat.le_refl _) _⟩, by simp [intOf]; omega⟩
    · have e : k = n := by omega
      subst e
      clear hO
      go_wp2
      go_ret
      exact ⟨_, rfl, HO.out.row, Nat.le_refl _, hB⟩

set_option maxHeartbeats 1000000 in
theorem toInsS_nil (a : Option Addr) (cap : Nat) (f : Nat → Ins) (w : World) :
    Calls Tryd.prog 86 #[.slice a 0 cap] w fun e w' => ∃ g, e = .returned (.slice (some ⟨g, 0, none⟩) 0 0) ∧ RowIns w' g 0 0 f ∧ w.heap.size ≤ g ∧ Below w.heap.size w w' := by
  have hmk : ∀ w : World, (Instr.makeSlice 54 (.int .i64 0) (.int .i64 0)).run Tryd.prog w = .ok (.slice (some ⟨w.heap.size, 0, none⟩) 0 0) (w.alloc (.cells (zerosIns 0) 122)) := fun w => mkIns 0 (by omega) w
  go_enter Tryd.func86, Tryd.ntmps86
  go_wp2
  clear hmk
  go_loop [4] (fun i => i = .int .i64 0) (fun _ => 0)
  case atStart => rfl
  case round =>
    subst hrel
    go_wp2
    go_ret
    exact ⟨_, rfl, (ownIns_start w 0 f).row, Nat.le_refl _, (Below.refl _ _).alloc (Nat.le_refl _) _⟩

theorem toInsS_any (a : Option Addr) (n cap : Nat) (f : Nat → Ins) (w : World) (hn : n ≤ 1048576) (hv : SlIns w a n f) :
    Calls Tryd.prog 86 #[.slice a n cap] w fun e w' => ∃ g, e = .returned (.slice (some ⟨g, 0, none⟩) n n) ∧ RowIns w' g 0 n f ∧ w.heap.size ≤ g ∧ Below w.heap.size w w' := by
  rcases hv with rfl | ⟨b, off, rfl, hl, hc⟩
  · exact toInsS_nil a cap f w
  · exact toInsS_row b off n cap f w hn hl hc

set_option maxHeartbeats 400000 in
theorem eqIns_same (op : Int) (s : ByteArray) (n : Int) (w : World) :
    Calls Tryd.prog 98 #[.agg #[.int .i64 op, .string s, .int .i64 n], .agg #[.int .i64 op, .string s, .int .i64 n]] w fun e w' => e = .returned (.bool true) ∧ Below w.heap.size w w' := by
  go_enter Tryd.func98, Tryd.ntmps98
  go_wp2
  go_ret
  exact ⟨rfl, ((Below.refl _ _).alloc (Nat.le_refl _) _).alloc (by simp) _⟩

set_option maxHeartbeats 1000000 in
theorem eqInsS_row (b off cap b2 off2 cap2 n : Nat) (f : Nat → Ins) (w : World) (hn : n ≤ 1048576) (hb : b < w.heap.size) (hf : ∀ i, i < n → AtIns w b off i (f i)) (hb2 : b2 < w.heap.size) (hf2 : ∀ i, i < n → AtIns w b2 off2 i (f i)) :
    Calls Tryd.prog 90 #[.slice (some ⟨b, off, none⟩) n cap, .slice (some ⟨b2, off2, none⟩) n cap2] w fun e w' => e = .returned (.bool true) ∧ Below w.heap.size w w' := by
  have HF := hide hf
  have HF2 := hide hf2
  clear hf hf2
  go_enter Tryd.func90, Tryd.ntmps90
  go_wp2
  go_loopw [5] (fun i wr => ∃ k : Nat, k ≤ n ∧ i = .int .i64 k ∧ Below w.heap.size w wr) (fun i _ => n - (intOf i).toNat)
  case atStart => exact ⟨0, by omega, rfl, Below.refl _ _⟩
  case round =>
    obtain ⟨k, hk, rfl, hB⟩ := hrel
    have HB := hide hB
    have hsz : w.heap.size ≤ wr.heap.size := hB.size
    clear hB
    by_cases hlt : k < n
    · obtain ⟨c0, c1, c2⟩ := (HF.out k hlt).below HB.out hb
      obtain ⟨d0, d1, d2⟩ := (HF2.out k hlt).below HB.out hb2
      go_wp2_with fail
      go_region_with (go_at_call 98; refine (eqIns_same _ _ _ _).mono ?_; rintro e w' ⟨rfl, hB'⟩)
      all_goals
        go_wp2
        exact ⟨⟨k + 1, by omega, by go_num, Below.trans (by repeat (first | exact HB.out | apply Below.drew)) (hB'.mono hsz)⟩, by simp [intOf]; omega⟩
    · have e : k = n := by omega
      subst e
      go_wp2
      go_ret
      exact ⟨rfl, HB.out⟩

set_option maxHeartbeats 1000000 in
theorem eqInsS_nil (a a2 : Option Addr) (cap cap2 : Nat) (w : World) :
    Calls Tryd.prog 90 #[.slice a 0 cap, .slice a2 0 cap2] w fun e w' => e = .returned (.bool true) ∧ w' = w := by
  go_enter Tryd.func90, Tryd.ntmps90
  go_wp2
  go_loop [5] (fun i => i = .int .i64 0) (fun _ => 0)
  case atStart => rfl
  case round =>
    subst hrel
    go_wp2
    go_ret
    exact ⟨rfl, rfl⟩

/-- The same elements: equal. -/
theorem eqInsS_any (a a2 : Option Addr) (cap cap2 n : Nat) (f : Nat → Ins) (w : World) (hn : n ≤ 1048576) (h : SlIns w a n f) (h2 : SlIns w a2 n f) :
    Calls Tryd.prog 90 #[.slice a n cap, .slice a2 n cap2] w fun e w' => e = .returned (.bool true) ∧ Below w.heap.size w w' := by
  by_cases hz : n = 0
  · subst hz
    exact (eqInsS_nil a a2 cap cap2 w).mono fun _ _ ⟨a, b⟩ => ⟨a, by rw [b]; exact Below.refl _ _⟩
  · rcases h with h | ⟨b, off, rfl, hb, hf⟩
    · exact absurd h hz
    · rcases h2 with h | ⟨b2, off2, rfl, hb2, hf2⟩
      · exact absurd h hz
      · exact eqInsS_row b off cap b2 off2 cap2 n f w hn hb hf hb2 hf2

end Go.Proofs.YtggchgpphhhleaaDoor.Vp

/-
  markText: a mark's text; what marking leaves.
-/
namespace Go.Proofs.YtggchgpphhhleaaDoor.Vp
open Go.RowKit

/-- The text of a mark. -/
def mkT (k : Int) : ByteArray := ⟨(109 :: Lib.decDigits k.toNat).toArray⟩
/-- A decimal digit. -/
def mdig (n : Nat) : UInt8 := UInt8.ofNat (48 + n)
theorem mdigit (n : Nat) (h : n < 10) : (48 + (n : Int)) = (mdig n).toNat := by
  unfold mdig
  rw [UInt8.toNat_ofNat']
  omega
theorem mconv_one (x : Int) (b : UInt8) (h : x = b.toNat) (w : World) (g : Nat) (hc : w.cell? ⟨g, 0, none⟩ = some (.int .u8 x)) : (convert 106 9 (.slice (some ⟨g, 0, none⟩) 1 1)).run Tryd.prog w = .ok (.string ⟨#[b]⟩) w := by
  refine run_convert_bytes_back _ 106 9 5 ⟨g, 0, none⟩ 1 [b] Tryd.underlying106 Tryd.underlying5 Tryd.underlying9 ?_
  intro j hj
  obtain rfl : j = 0 := by simpa using hj
  simp [Addr.add, hc, h]
/-- The digits, none for 0. -/
def mdec (m : Nat) : List UInt8 := if m = 0 then [] else Lib.decDigits m
theorem mdec_snoc {m : Nat} (h : 0 < m) : mdec m = mdec (m / 10) ++ [mdig (m % 10)] := by
  unfold mdec
  rw [if_neg (by omega)]
  by_cases h1 : m < 10
  · rw [Lib.decDigits_one h1, if_pos (by omega), show m % 10 = m by omega]
    rfl
  · rw [Lib.decDigits, dif_neg h1, if_neg (by omega)]
    rfl
theorem dec_len64 (n : Nat) (h : n ≤ 9223372036854775807) : (Lib.decDigits n).length ≤ 21 := by rw [← Lib.itoa_nonneg]; exact Lib.itoa_length_le _ (by omega) (by omega)

theorem cat_one (b : UInt8) (l : List UInt8) : (⟨#[b]⟩ : ByteArray) ++ ⟨l.toArray⟩ = ⟨(b :: l).toArray⟩ := by
  apply ByteArray.ext
  simp

set_option maxHeartbeats 1000000 in
theorem markText_any (n : Nat) (w : World) (h1 : 1 ≤ n) (h2 : n ≤ 9223372036854775807) :
    Calls Tryd.prog 47 #[.int .i64 n] w fun e w' => e = .returned (.string (mkT n)) ∧ Below w.heap.size w w' := by
  have HL := hide (dec_len64 n h2)
  have hp : decide ((n : Int) ≤ 0) = false := by simp; omega
  have hp2 : 0 < (n : Int) := by omega
  go_enter Tryd.func47, Tryd.ntmps47
  go_wp2
  go_loopw [0, 3] (fun i v wr => ∃ (m : Nat) (l : List UInt8), i = .int .i64 m ∧ m ≤ n ∧ v = .string ⟨l.toArray⟩ ∧ Hid (Lib.decDigits n = mdec m ++ l) ∧ Below w.heap.size w wr) (fun i _ _ => (intOf i).toNat)
  case atStart => exact ⟨n, [], rfl, Nat.le_refl _, rfl, by show Lib.decDigits n = mdec n ++ []; simp [mdec]; intro h; omega, Below.refl _ _⟩
  case round =>
    obtain ⟨m, l, rfl, hm, rfl, hd, hB⟩ := hrel
    have HB := hide hB
    have hsz : w.heap.size ≤ wr.heap.size := hB.size
    clear hB
    have hll : l.length ≤ 21 := by
      have h3 := HL.out
      rw [hd.out, List.length_append] at h3
      omega
    by_cases hlt : 0 < m
    · have hlt' : 0 < (m : Int) := by omega
      have hcv := mconv_one (48 + (m : Int) % 10) (mdig (m % 10)) (by have := mdigit (m % 10) (by omega); omega)
      go_wp2
      exact ⟨⟨m / 10, mdig (m % 10) :: l, by rw [Int.natCast_ediv]; rfl, by omega, by rw [cat_one], by
        show Lib.decDigits n = mdec (m / 10) ++ (mdig (m % 10) :: l)
        rw [hd.out, mdec_snoc hlt, List.append_assoc]
        rfl, HB.out.alloc hsz _⟩, by simp [intOf]; omega⟩
    · have e : m = 0 := by omega
      subst e
      go_wp2
      all_goals go_ret
      refine ⟨ret_str ?_, HB.out⟩
      have hl : l = Lib.decDigits n := by
        have h3 := hd.out
        simpa [mdec] using h3.symm
      rw [hl]
      apply ByteArray.ext
      simp [mkT]

theorem markText_int (x : Int) (w : World) (h1 : 1 ≤ x) (h2 : x ≤ 9223372036854775807) :
    Calls Tryd.prog 47 #[.int .i64 x] w fun e w' => e = .returned (.string (mkT x)) ∧ Below w.heap.size w w' := by
  obtain ⟨n, rfl⟩ := Int.eq_ofNat_of_zero_le (show 0 ≤ x by omega)
  exact markText_any n w (by omega) (by omega)

/-- Blocks outside lo .. hi - 1 stand as they stood. -/
structure Within (lo hi : Nat) (w w' : World) : Prop where
  os : w'.os = w.os
  tape : w'.tape = w.tape
  output : w'.output = w.output
  size : w.heap.size ≤ w'.heap.size
  block : ∀ k, k < w.heap.size → k < lo ∨ hi ≤ k → w'.heap[k]? = w.heap[k]?
theorem Within.refl (lo hi : Nat) (w : World) : Within lo hi w w := ⟨rfl, rfl, rfl, Nat.le_refl _, fun _ _ _ => rfl⟩
theorem Within.trans {lo hi : Nat} {a b c : World} (h : Within lo hi a b) (k : Within lo hi b c) : Within lo hi a c :=
  ⟨k.os.trans h.os, k.tape.trans h.tape, k.output.trans h.output, Nat.le_trans h.size k.size, fun i hi ho => (k.block i (Nat.lt_of_lt_of_le hi h.size) ho).trans (h.block i hi ho)⟩
theorem Within.of_below {lo hi B : Nat} {w w' : World} (h : Below B w w') (hB : w.heap.size ≤ B) : Within lo hi w w' :=
  ⟨h.os, h.tape, h.output, h.size, fun i hi _ => h.block i (Nat.lt_of_lt_of_le hi hB)⟩
theorem Within.below {lo hi B : Nat} {a w w' : World} (h : Within lo hi a w) (hb : Below B w w') (hB : w.heap.size ≤ B) : Within lo hi a w' := h.trans (Within.of_below hb hB)
theorem Within.setCell {lo hi : Nat} {a w : World} (h : Within lo hi a w) {p : Addr} (h1 : lo ≤ p.block) (h2 : p.block < hi) (v : Value) : Within lo hi a (w.setCell p v) :=
  h.trans ⟨rfl, rfl, rfl, by simp [World.setCell], fun k _ ho => Below.heap_setCell _ _ _ _ (by omega)⟩
theorem Within.mono {lo hi lo' hi' : Nat} {w w' : World} (h : Within lo hi w w') (h1 : lo' ≤ lo) (h2 : hi ≤ hi') : Within lo' hi' w w' :=
  ⟨h.os, h.tape, h.output, h.size, fun k hk ho => h.block k hk (by omega)⟩
theorem Within.toBelow {lo hi : Nat} {w w' : World} (h : Within lo hi w w') (hl : lo ≤ w.heap.size) : Below lo w w' :=
  ⟨h.os, h.tape, h.output, h.size, fun k hk => h.block k (by omega) (.inl hk)⟩

/-- The m cells from off on in block b: they are there, none frozen. -/
def Cells (w : World) (b off m : Nat) (F : Nat → Value) : Prop := b < w.heap.size ∧ ∀ j, j < m → w.cell? ⟨b, off + j, none⟩ = some (F j) ∧ w.frozen? ⟨b, off + j, none⟩ = false
theorem Cells.below {w w' : World} {B b off m : Nat} {F : Nat → Value} (h : Cells w b off m F) (hb : Below B w w') (hB : b < B) : Cells w' b off m F :=
  ⟨Nat.lt_of_lt_of_le h.1 hb.size, fun j hj => ⟨(hb.cell (p := ⟨b, _, none⟩) hB).trans (h.2 j hj).1, (hb.frozen (p := ⟨b, _, none⟩) hB).trans (h.2 j hj).2⟩⟩
theorem Cells.set {w : World} {b off m : Nat} {F : Nat → Value} (h : Cells w b off m F) (j : Nat) (hj : j < m) (v : Value) : Cells (w.setCell ⟨b, off + j, none⟩ v) b off m (fun x => if x = j then v else F x) := by
  refine ⟨by simpa using h.1, fun x hx => ⟨?_, ?_⟩⟩
  · by_cases e : x = j
    · subst e
      exact (World.cell?_setCell_same' _ _ _ (by rw [(h.2 x hx).1]; rfl)).trans (by simp)
    · have hne : (⟨b, off + j, none⟩ : Addr) ≠ ⟨b, off + x, none⟩ := by
        intro q
        exact e (by simpa using q.symm)
      exact (World.cell?_setCell_other _ _ _ _ hne).trans ((h.2 x hx).1.trans (by simp [e]))
  · have := (h.2 x hx).2
    simpa using this
theorem Cells.congr {w : World} {b off m : Nat} {F G : Nat → Value} (h : Cells w b off m F) (e : ∀ j, j < m → F j = G j) : Cells w b off m G :=
  ⟨h.1, fun j hj => by rw [← e j hj]; exact h.2 j hj⟩

end Go.Proofs.YtggchgpphhhleaaDoor.Vp

/-
  Cells that are written.
-/
namespace Go.Proofs.YtggchgpphhhleaaDoor.Vp
open Go.RowKit

theorem Cells.at {w : World} {b off m : Nat} {F : Nat → Value} (h : Cells w b off m F) (x j : Nat) (hx : x = off + j) (hj : j < m) : w.cell? ⟨b, x, none⟩ = some (F j) ∧ w.frozen? ⟨b, x, none⟩ = false := by
  subst hx
  exact h.2 j hj
theorem Cells.setAt {w : World} {b off m : Nat} {F : Nat → Value} (h : Cells w b off m F) (x j : Nat) (hx : x = off + j) (hj : j < m) (v : Value) : Cells (w.setCell ⟨b, x, none⟩ v) b off m (fun y => if y = j then v else F y) := by
  subst hx
  exact h.set j hj v
theorem Cells.within {w w' : World} {b off m lo hi : Nat} {F : Nat → Value} (h : Cells w b off m F) (hw : Within lo hi w w') (hb : b < lo ∨ hi ≤ b) : Cells w' b off m F := by
  have e := hw.block b h.1 hb
  exact ⟨Nat.lt_of_lt_of_le h.1 hw.size, fun j hj => ⟨(World.cell?_of_block (a := ⟨b, off + j, none⟩) e).trans (h.2 j hj).1, (World.frozen?_of_block (a := ⟨b, off + j, none⟩) e).trans (h.2 j hj).2⟩⟩

end Go.Proofs.YtggchgpphhhleaaDoor.Vp

/-
  Marks of Ins. Written by tools/mark2.py.
-/
namespace Go.Proofs.YtggchgpphhhleaaDoor.Vp
open Go.RowKit

/-- What cell j of a marked row holds. -/
def markIns (k0 : Nat) (j : Nat) : Value := if j % 3 = 0 then .int .i64 ((k0 : Int) + j) else if j % 3 = 1 then .string (mkT ((k0 : Int) + j)) else .int .i64 ((k0 : Int) + j)
theorem markIns_0 {k0 k q : Nat} (h : q = k0 + k * 3) : markIns k0 (k * 3) = .int .i64 ((q : Int)) := by
  have e : (k0 : Int) + ((k * 3 : Nat) : Int) = (q : Int) := by omega
  unfold markIns
  rw [if_pos (by omega), e]
theorem markIns_1 {k0 k q : Nat} (h : q = k0 + k * 3) : markIns k0 (k * 3 + 1) = .string (mkT ((q : Int) + 1)) := by
  have e : (k0 : Int) + ((k * 3 + 1 : Nat) : Int) = (q : Int) + 1 := by omega
  unfold markIns
  rw [if_neg (by omega), if_pos (by omega), e]
theorem markIns_2 {k0 k q : Nat} (h : q = k0 + k * 3) : markIns k0 (k * 3 + 2) = .int .i64 ((q : Int) + 1 + 1) := by
  have e : (k0 : Int) + ((k * 3 + 2 : Nat) : Int) = (q : Int) + 1 + 1 := by omega
  unfold markIns
  rw [if_neg (by omega), if_neg (by omega), e]

set_option maxRecDepth 100000 in
set_option maxHeartbeats 4000000 in
theorem markInsS_row (b off n cap k0 : Nat) (F : Nat → Value) (w : World) (hn : (n : Int) ≤ 1048576) (h1 : 1 ≤ (k0 : Int)) (h2 : (k0 : Int) ≤ 1152921504606846976) (hC : Cells w b off (n * 3) F) :
    Calls Tryd.prog 63 #[.slice (some ⟨b, off, none⟩) n cap, .int .i64 k0] w fun e w' => e = .returned (.int .i64 ((k0 + n * 3 : Nat) : Int)) ∧ Cells w' b off (n * 3) (markIns k0) ∧ Within b (b + 1) w w' := by
  have HC := hide hC
  clear hC
  go_enter Tryd.func63, Tryd.ntmps63
  go_wp2
  go_loopw [1, 5] (fun v i wr => ∃ (k q : Nat) (F : Nat → Value), k ≤ n ∧ Hid (q = k0 + k * 3) ∧ i = .int .i64 k ∧ v = .int .i64 q ∧ Hid (Cells wr b off (n * 3) F) ∧ Hid (∀ j, j < k * 3 → F j = markIns k0 j) ∧ Hid (Within b (b + 1) w wr)) (fun _ i _ => n - (intOf i).toNat)
  case atStart => exact ⟨0, k0, F, by omega, by show k0 = _; omega, rfl, rfl, HC.out, fun j hj => by omega, Within.refl _ _ _⟩
  case round =>
    obtain ⟨k, q, F, hk, HQ, rfl, rfl, HC0, HM, HW0⟩ := hrel
    have hq1 : 1 ≤ (q : Int) := by have := HQ.out; omega
    have hq2 : (q : Int) ≤ 1152921504610000000 := by have := HQ.out; omega
    by_cases hlt : k < n
    · have hkk : k * 3 + 3 ≤ n * 3 := by omega
      obtain ⟨c0, z0⟩ := HC0.out.at (off + k * 3) (k * 3) (by omega) (by omega)
      obtain ⟨c1, z1⟩ := HC0.out.at (off + k * 3 + 1) (k * 3 + 1) (by omega) (by omega)
      obtain ⟨c2, z2⟩ := HC0.out.at (off + k * 3 + 2) (k * 3 + 2) (by omega) (by omega)
      have HS0 := hide (HC0.out.setAt (off + k * 3) (k * 3) (by omega) (by omega) (.int .i64 ((q : Int))))
      have HX0 := hide (HW0.out.setCell (p := ⟨b, off + k * 3, none⟩) (Nat.le_refl _) (Nat.lt_succ_self _) (.int .i64 ((q : Int))))
      go_wp2_with fail
      clear c0 z0 c1 z1 c2 z2
      generalize (wr.setCell ⟨b, off + k * 3, none⟩ (.int .i64 ((q : Int)))) = v1 at HS0 HX0 ⊢
      refine (markText_int ((q : Int) + 1) _ (by omega) (by omega)).mono ?_
      rintro e w1 ⟨rfl, hB⟩
      have HC1 := hide (HS0.out.below hB HS0.out.1)
      have HW1 := hide (HX0.out.below hB (Nat.le_refl _))
      clear hB 
      obtain ⟨c1, z1⟩ := HC1.out.at (off + k * 3 + 1) (k * 3 + 1) (by omega) (by omega)
      obtain ⟨c2, z2⟩ := HC1.out.at (off + k * 3 + 2) (k * 3 + 2) (by omega) (by omega)
      have HS1 := hide (HC1.out.setAt (off + k * 3 + 1) (k * 3 + 1) (by omega) (by omega) (.string (mkT ((q : Int) + 1))))
      have HX1 := hide (HW1.out.setCell (p := ⟨b, off + k * 3 + 1, none⟩) (Nat.le_refl _) (Nat.lt_succ_self _) (.string (mkT ((q : Int) + 1))))
      have HS2 := hide (HS1.out.setAt (off + k * 3 + 2) (k * 3 + 2) (by omega) (by omega) (.int .i64 ((q : Int) + 2)))
      have HX2 := hide (HX1.out.setCell (p := ⟨b, off + k * 3 + 2, none⟩) (Nat.le_refl _) (Nat.lt_succ_self _) (.int .i64 ((q : Int) + 2)))
      go_wp2
      refine ⟨⟨k + 1, q + 3, _, by omega, by show q + 3 = k0 + (k + 1) * 3; have := HQ.out; omega, by go_num, by go_num, HS2.out, ?_, HX2.out⟩, by simp [intOf]; omega⟩
      intro j hj
      rcases (show j < k * 3 ∨ j = k * 3 ∨ j = k * 3 + 1 ∨ j = k * 3 + 2 by omega) with h | rfl | rfl | rfl
      · rw [if_neg (by omega), if_neg (by omega), if_neg (by omega), HM.out j h]
      · rw [if_neg (by omega), if_neg (by omega), if_pos rfl, markIns_0 HQ.out]
      · rw [if_neg (by omega), if_pos rfl, markIns_1 HQ.out]
      · rw [if_pos rfl, markIns_2 HQ.out]
        rw [show (q : Int) + 2 = (q : Int) + 1 + 1 by omega]
    · have e : k = n := by omega
      subst e
      have hv : (q : Int) = ((k0 + k * 3 : Nat) : Int) := by rw [HQ.out]
      have HV := hide hv
      clear hv
      go_wp2
      go_ret
      exact ⟨by show Ending.returned (.int .i64 (q : Int)) = _; rw [HV.out], HC0.out.congr HM.out, HW0.out⟩

set_option maxHeartbeats 1000000 in
theorem markInsS_nil (a : Option Addr) (cap k0 : Nat) (w : World) : Calls Tryd.prog 63 #[.slice a 0 cap, .int .i64 k0] w fun e w' => e = .returned (.int .i64 (k0 : Int)) ∧ w' = w := by
  go_enter Tryd.func63, Tryd.ntmps63
  go_wp2
  go_loop [1, 5] (fun v i => v = .int .i64 k0 ∧ i = .int .i64 0) (fun _ _ => 0)
  case atStart => exact ⟨rfl, rfl⟩
  case round =>
    obtain ⟨rfl, rfl⟩ := hrel
    go_wp2
    go_ret
    exact ⟨rfl, rfl⟩

end Go.Proofs.YtggchgpphhhleaaDoor.Vp

/-
  Data: Link: sizes, copies, comparisons. Written by tools/flat.py.
-/
namespace Go.Proofs.YtggchgpphhhleaaDoor.Vp
open Go.RowKit

structure Link where
  name : ByteArray
  ask : Bool
  has : Bool
  at_ : Int

/-- The cells of element i of a row that begins at off in block b. -/
def AtLink (w : World) (b off i : Nat) (x : Link) : Prop :=
  w.cell? ⟨b, off + i * 4, none⟩ = some (.string x.name) ∧ w.cell? ⟨b, off + i * 4 + 1, none⟩ = some (.bool x.ask) ∧ w.cell? ⟨b, off + i * 4 + 2, none⟩ = some (.bool x.has) ∧ w.cell? ⟨b, off + i * 4 + 3, none⟩ = some (.int .i64 x.at_)
theorem AtLink.below {w w' : World} {B b off i : Nat} {x : Link} (h : AtLink w b off i x) (hb : Below B w w') (hB : b < B) : AtLink w' b off i x :=
  ⟨(hb.cell (p := ⟨b, _, none⟩) hB).trans h.1, (hb.cell (p := ⟨b, _, none⟩) hB).trans h.2.1, (hb.cell (p := ⟨b, _, none⟩) hB).trans h.2.2.1, (hb.cell (p := ⟨b, _, none⟩) hB).trans h.2.2.2⟩
/-- A row of n in block b, from off on. -/
def RowLink (w : World) (b off n : Nat) (f : Nat → Link) : Prop := b < w.heap.size ∧ ∀ i, i < n → AtLink w b off i (f i)
theorem RowLink.below {w w' : World} {B b off n : Nat} {f : Nat → Link} (h : RowLink w b off n f) (hb : Below B w w') (hB : w.heap.size ≤ B) : RowLink w' b off n f :=
  ⟨Nat.lt_of_lt_of_le h.1 hb.size, fun i hi => (h.2 i hi).below hb (Nat.lt_of_lt_of_le h.1 hB)⟩
theorem RowLink.setOther {w : World} {g n off : Nat} {f : Nat → Link} (h : RowLink w g off n f) (p : Addr) (hp : p.block ≠ g) (v : Value) : RowLink (w.setCell p v) g off n f := by
  refine ⟨by simpa using h.1, fun i hi => ?_⟩
  have h := h.2 i hi
  have far : ∀ o, (w.setCell p v).cell? ⟨g, o, none⟩ = w.cell? ⟨g, o, none⟩ := fun o => World.cell?_of_block (w := w) (a := ⟨g, o, none⟩) (Below.heap_setCell w p v g (fun e => hp e.symm))
  exact ⟨(far _).trans h.1, (far _).trans h.2.1, (far _).trans h.2.2.1, (far _).trans h.2.2.2⟩
/-- A slice: an empty one, or a row of n. -/
def SlLink (w : World) (a : Option Addr) (n : Nat) (f : Nat → Link) : Prop := n = 0 ∨ ∃ b off, a = some ⟨b, off, none⟩ ∧ RowLink w b off n f
theorem SlLink.below {w w' : World} {B : Nat} {a : Option Addr} {n : Nat} {f : Nat → Link} (h : SlLink w a n f) (hb : Below B w w') (hB : w.heap.size ≤ B) : SlLink w' a n f := by
  rcases h with h | ⟨b, off, hv, hr⟩
  · exact .inl h
  · exact .inr ⟨b, off, hv, hr.below hb hB⟩
theorem RowLink.sl {w : World} {b off n : Nat} {f : Nat → Link} (h : RowLink w b off n f) : SlLink w (some ⟨b, off, none⟩) n f := .inr ⟨b, off, rfl, h⟩

set_option maxHeartbeats 400000 in
theorem szLink_any (name : ByteArray) (ask : Bool) (has : Bool) (at_ : Int) (left : Int) (w : World) (hsname : name.size ≤ maxLen) (l0 : 0 ≤ left) (l1 : left ≤ 1048576) :
    Calls Tryd.prog 84 #[.agg #[.string name, .bool ask, .bool has, .int .i64 at_], .int .i64 left] w fun e w' => ∃ r : Int, e = .returned (.int .i64 r) ∧ -1 ≤ r ∧ r ≤ left ∧ Below w.heap.size w w' := by
  unfold maxLen at hsname
  go_enter Tryd.func84, Tryd.ntmps84
  go_wp2
  all_goals go_ret
  all_goals first
    | exact ⟨-1, rfl, by omega, by omega, (Below.refl _ _).alloc (Nat.le_refl _) _⟩
    | exact ⟨_, rfl, by omega, by omega, (Below.refl _ _).alloc (Nat.le_refl _) _⟩

set_option maxHeartbeats 400000 in
theorem szLinkS_big (a : Option Addr) (n cap : Nat) (left : Int) (w : World) (h0 : 0 ≤ left) (h1 : left ≤ 1048576) (hn : (n : Int) ≤ 9223372036854775807) (h : left < (n : Int)) :
    Calls Tryd.prog 68 #[.slice a n cap, .int .i64 left] w fun e w' => e = .returned (.int .i64 (-1)) ∧ w' = w := by
  go_enter Tryd.func68, Tryd.ntmps68
  go_wp2
  go_ret
  exact ⟨rfl, rfl⟩

set_option maxHeartbeats 1000000 in
theorem szLinkS_row (b off n cap : Nat) (f : Nat → Link) (left : Int) (w : World) (h0 : (n : Int) ≤ left) (h1 : left ≤ 1048576) (hb : b < w.heap.size) (hf : ∀ i, i < n → AtLink w b off i (f i)) (hs : ∀ i, i < n → (f i).name.size ≤ maxLen) :
    Calls Tryd.prog 68 #[.slice (some ⟨b, off, none⟩) n cap, .int .i64 left] w fun e w' => ∃ r : Int, e = .returned (.int .i64 r) ∧ -1 ≤ r ∧ r ≤ left ∧ Below w.heap.size w w' := by
  have HF := hide hf
  have HS := hide hs
  clear hf hs
  go_enter Tryd.func68, Tryd.ntmps68
  go_wp2
  go_loopw [1, 5] (fun l i wr => ∃ k : Nat, ∃ r : Int, k ≤ n ∧ 0 ≤ r ∧ r ≤ left ∧ i = .int .i64 k ∧ l = .int .i64 r ∧ Below w.heap.size w wr) (fun _ i _ => n - (intOf i).toNat)
  case atStart => exact ⟨0, left - n, by omega, by omega, by omega, rfl, rfl, Below.refl _ _⟩
  case round =>
    obtain ⟨k, r, hk, hr0, hr1, rfl, rfl, hB⟩ := hrel
    by_cases hlt : k < n
    · obtain ⟨c0, c1, c2, c3⟩ := (HF.out k hlt).below hB hb
      go_wp2_with (go_at_call 84; refine (szLink_any _ _ _ _ _ _ (HS.out k hlt) (by omega) (by omega)).mono ?_; rintro e w' ⟨r', rfl, hr2, hr3, hB'⟩)
      · go_ret
        exact ⟨-1, rfl, by omega, by omega, hB.trans (hB'.mono hB.size)⟩
      · exact ⟨⟨k + 1, r', by omega, by omega, by omega, by go_num, rfl, hB.trans (hB'.mono hB.size)⟩, by simp [intOf]; omega⟩
    · go_wp2
      go_ret
      exact ⟨r, rfl, by omega, by omega, hB⟩

set_option maxHeartbeats 400000 in
theorem szLinkS_nil (a : Option Addr) (cap : Nat) (left : Int) (w : World) (h0 : 0 ≤ left) (h1 : left ≤ 1048576) :
    Calls Tryd.prog 68 #[.slice a 0 cap, .int .i64 left] w fun e w' => e = .returned (.int .i64 left) ∧ w' = w := by
  go_enter Tryd.func68, Tryd.ntmps68
  go_wp2
  go_loop [1, 5] (fun l i => l = .int .i64 left ∧ i = .int .i64 0) (fun _ _ => 0)
  case atStart => exact ⟨by simp, rfl⟩
  case round =>
    obtain ⟨rfl, rfl⟩ := hrel
    go_wp2
    go_ret
    exact ⟨rfl, rfl⟩

theorem szLinkS_any (a : Option Addr) (n cap : Nat) (f : Nat → Link) (left : Int) (w : World) (h0 : 0 ≤ left) (h1 : left ≤ 1048576) (hn : (n : Int) ≤ 9223372036854775807) (hv : SlLink w a n f) (hs : ∀ i, i < n → (f i).name.size ≤ maxLen) :
    Calls Tryd.prog 68 #[.slice a n cap, .int .i64 left] w fun e w' => ∃ r : Int, e = .returned (.int .i64 r) ∧ -1 ≤ r ∧ r ≤ left ∧ (0 ≤ r → (n : Int) ≤ left) ∧ Below w.heap.size w w' := by
  rcases hv with rfl | ⟨b, off, rfl, hl, hc⟩
  · exact (szLinkS_nil a cap left w h0 h1).mono fun e w' ⟨a, b⟩ => ⟨_, a, by omega, by omega, fun _ => by omega, by rw [b]; exact Below.refl _ _⟩
  · by_cases h : (n : Int) ≤ left
    · exact (szLinkS_row b off n cap f left w h h1 hl hc hs).mono fun e w' ⟨r, a, b, c, d⟩ => ⟨r, a, b, c, fun _ => h, d⟩
    · exact (szLinkS_big _ n cap left w h0 h1 hn (by omega)).mono fun e w' ⟨a, b⟩ => ⟨_, a, by omega, by omega, fun _ => by omega, by rw [b]; exact Below.refl _ _⟩

theorem infoLink : (Tryd.prog.info? 72).map (fun i => (i.zero, i.size, i.bytes)) = some (some (.agg #[.string ⟨#[]⟩, .bool false, .bool false, .int .i64 0]), 4, 32) := by kernel_rfl
def zerosLink (n : Nat) : Array Value := madeCells (Value.agg #[.string ⟨#[]⟩, .bool false, .bool false, .int .i64 0]).cells (n * 4)
theorem mkLink (n : Nat) (hn : n ≤ 1048576) (w : World) : (Instr.makeSlice 57 (.int .i64 (n : Int)) (.int .i64 (n : Int))).run Tryd.prog w = .ok (.slice (some ⟨w.heap.size, 0, none⟩) n n) (w.alloc (.cells (zerosLink n) 72)) := by
  obtain ⟨i, hi, hz⟩ := Option.map_eq_some_iff.1 infoLink
  simp only [Prod.mk.injEq] at hz
  obtain ⟨h1, h2, h3⟩ := hz
  have h := run_make (P := Tryd.prog) w 57 72 i _ Tryd.underlying57 hi h1 .i64 .i64 n n (by omega) (Int.le_refl _) (by rw [h3]; omega) (by omega)
  rw [h2] at h
  simpa [zerosLink] using h

/-- Block g is a row of n elements' cells; the first k are those of f. -/
def OwnLink (w : World) (g n k : Nat) (f : Nat → Link) : Prop :=
  ∃ F, w.rowIs g 72 (n * 4) F ∧ ∀ i, i < k → F (i * 4) = .string (f i).name ∧ F (i * 4 + 1) = .bool (f i).ask ∧ F (i * 4 + 2) = .bool (f i).has ∧ F (i * 4 + 3) = .int .i64 (f i).at_
theorem ownLink_start (w : World) (n : Nat) (f : Nat → Link) : OwnLink (w.alloc (.cells (zerosLink n) 72)) w.heap.size n 0 f := by
  have hz : (zerosLink n).size = n * 4 := size_madeCells _ _
  have h := World.rowIs_alloc w (zerosLink n) 72 (fun i => (zerosLink n)[i]?.getD undef) (fun i hi => by rw [Array.getElem?_eq_getElem hi]; rfl)
  rw [hz] at h
  exact ⟨_, h, fun i hi => absurd hi (Nat.not_lt_zero _)⟩
theorem OwnLink.step {w : World} {g n k : Nat} {f : Nat → Link} (h : OwnLink w g n k f) :
    OwnLink ((((w.setCell ⟨g, k * 4, none⟩ (.string (f k).name)).setCell ⟨g, k * 4 + 1, none⟩ (.bool (f k).ask)).setCell ⟨g, k * 4 + 2, none⟩ (.bool (f k).has)).setCell ⟨g, k * 4 + 3, none⟩ (.int .i64 (f k).at_)) g n (k + 1) f := by
  obtain ⟨F, hr, hF⟩ := h
  refine ⟨_, ((((hr.set _ _).set _ _).set _ _).set _ _), fun i hi => ?_⟩
  by_cases e : i = k
  · subst e
    exact ⟨by simp, by simp, by simp, by simp⟩
  · have h := hF i (by omega)
    refine ⟨?_, ?_, ?_, ?_⟩
    · show (if _ then _ else if _ then _ else if _ then _ else if _ then _ else _) = _
      rw [if_neg (by omega), if_neg (by omega), if_neg (by omega), if_neg (by omega), h.1]
    · show (if _ then _ else if _ then _ else if _ then _ else if _ then _ else _) = _
      rw [if_neg (by omega), if_neg (by omega), if_neg (by omega), if_neg (by omega), h.2.1]
    · show (if _ then _ else if _ then _ else if _ then _ else if _ then _ else _) = _
      rw [if_neg (by omega), if_neg (by omega), if_neg (by omega), if_neg (by omega), h.2.2.1]
    · show (if _ then _ else if _ then _ else if _ then _ else if _ then _ else _) = _
      rw [if_neg (by omega), if_neg (by omega), if_neg (by omega), if_neg (by omega), h.2.2.2]
theorem OwnLink.below {w w' : World} {g n k : Nat} {f : Nat → Link} {B : Nat} (h : OwnLink w g n k f) (hb : Below B w w') (hB : g < B) : OwnLink w' g n k f := by
  obtain ⟨F, hr, hF⟩ := h
  exact ⟨F, hr.of_block (hb.block g hB), hF⟩
theorem OwnLink.row {w : World} {g n : Nat} {f : Nat → Link} (h : OwnLink w g n n f) : RowLink w g 0 n f := by
  obtain ⟨F, hr, hF⟩ := h
  refine ⟨hr.lt, fun i hi => ?_⟩
  have h := hF i hi
  refine ⟨?_, ?_, ?_, ?_⟩
  · rw [Nat.zero_add, hr.cell (by omega), h.1]
  · rw [Nat.zero_add, hr.cell (by omega), h.2.1]
  · rw [Nat.zero_add, hr.cell (by omega), h.2.2.1]
  · rw [Nat.zero_add, hr.cell (by omega), h.2.2.2]

set_option maxHeartbeats 400000 in
theorem toLink_any (name : ByteArray) (ask : Bool) (has : Bool) (at_ : Int) (w : World) :
    Calls Tryd.prog 87 #[.agg #[.string name, .bool ask, .bool has, .int .i64 at_]] w fun e w' => e = .returned (.agg #[.string name, .bool ask, .bool has, .int .i64 at_]) ∧ Below w.heap.size w w' := by
  go_enter Tryd.func87, Tryd.ntmps87
  go_wp2
  refine bodyPost_ret (v := .agg #[.string name, .bool ask, .bool has, .int .i64 at_]) (by simp [results, Tryd.results87, go_sem]) rfl ⟨rfl, ?_⟩
  exact (((Below.refl _ _).alloc (Nat.le_refl _) _).alloc (by simp) _).alloc (by simp; omega) _

set_option maxHeartbeats 1000000 in
theorem toLinkS_row (b off n cap : Nat) (f : Nat → Link) (w : World) (hn : n ≤ 1048576) (hb : b < w.heap.size) (hf : ∀ i, i < n → AtLink w b off i (f i)) :
    Calls Tryd.prog 71 #[.slice (some ⟨b, off, none⟩) n cap] w fun e w' => ∃ g, e = .returned (.slice (some ⟨g, 0, none⟩) n n) ∧ RowLink w' g 0 n f ∧ w.heap.size ≤ g ∧ Below w.heap.size w w' := by
  have HF := hide hf
  clear hf
  have hmk := mkLink n hn
  go_enter Tryd.func71, Tryd.ntmps71
  go_wp2
  clear hmk
  go_loopw [4] (fun i wr => ∃ k : Nat, k ≤ n ∧ i = .int .i64 k ∧ OwnLink wr w.heap.size n k f ∧ Below w.heap.size w wr) (fun i _ => n - (intOf i).toNat)
  case atStart => exact ⟨0, by omega, rfl, ownLink_start w n f, (Below.refl _ _).alloc (Nat.le_refl _) _⟩
  case round =>
    obtain ⟨k, hk, rfl, hO, hB⟩ := hrel
    have HO := hide hO
    by_cases hlt : k < n
    · obtain ⟨c0, c1, c2, c3⟩ := (HF.out k hlt).below hB hb
      clear hO
      go_wp2_with fail
      refine (toLink_any _ _ _ _ _).mono ?_
      rintro e w1 ⟨rfl, hB1⟩
      have HO1 : Hid (OwnLink w1 w.heap.size n k f) := HO.out.below hB1 (by obtain ⟨F, hr, _⟩ := HO.out; exact hr.lt)
      obtain ⟨F, hr, _⟩ := HO1.out
      have d0 := hr.cell (i := k * 4) (by omega)
      have z0 := hr.frozen (k * 4)
      have d1 := hr.cell (i := k * 4 + 1) (by omega)
      have z1 := hr.frozen (k * 4 + 1)
      have d2 := hr.cell (i := k * 4 + 2) (by omega)
      have z2 := hr.frozen (k * 4 + 2)
      have d3 := hr.cell (i := k * 4 + 3) (by omega)
      have z3 := hr.frozen (k * 4 + 3)
      clear hr c0 c1 c2 c3
      go_wp2
      exact ⟨⟨k + 1, by omega, by go_num, HO1.out.step, ((((hB.trans (hB1.mono hB.size)).setCell (Nat.le_refl _) _).setCell (Nat.le_refl _) _).setCell (Nat.le_refl _) _).setCell (Nat.le_refl _) _⟩, by simp [intOf]; omega⟩
    · have e : k = n := by omega
      subst e
      clear hO
      go_wp2
      go_ret
      exact ⟨_, rfl, HO.out.row, Nat.le_refl _, hB⟩

set_option maxHeartbeats 1000000 in
theorem toLinkS_nil (a : Option Addr) (cap : Nat) (f : Nat → Link) (w : World) :
    Calls Tryd.prog 71 #[.slice a 0 cap] w fun e w' => ∃ g, e = .returned (.slice (some ⟨g, 0, none⟩) 0 0) ∧ RowLink w' g 0 0 f ∧ w.heap.size ≤ g ∧ Below w.heap.size w w' := by
  have hmk : ∀ w : World, (Instr.makeSlice 57 (.int .i64 0) (.int .i64 0)).run Tryd.prog w = .ok (.slice (some ⟨w.heap.size, 0, none⟩) 0 0) (w.alloc (.cells (zerosLink 0) 72)) := fun w => mkLink 0 (by omega) w
  go_enter Tryd.func71, Tryd.ntmps71
  go_wp2
  clear hmk
  go_loop [4] (fun i => i = .int .i64 0) (fun _ => 0)
  case atStart => rfl
  case round =>
    subst hrel
    go_wp2
    go_ret
    exact ⟨_, rfl, (ownLink_start w 0 f).row, Nat.le_refl _, (Below.refl _ _).alloc (Nat.le_refl _) _⟩

theorem toLinkS_any (a : Option Addr) (n cap : Nat) (f : Nat → Link) (w : World) (hn : n ≤ 1048576) (hv : SlLink w a n f) :
    Calls Tryd.prog 71 #[.slice a n cap] w fun e w' => ∃ g, e = .returned (.slice (some ⟨g, 0, none⟩) n n) ∧ RowLink w' g 0 n f ∧ w.heap.size ≤ g ∧ Below w.heap.size w w' := by
  rcases hv with rfl | ⟨b, off, rfl, hl, hc⟩
  · exact toLinkS_nil a cap f w
  · exact toLinkS_row b off n cap f w hn hl hc

set_option maxHeartbeats 400000 in
theorem eqLink_same (name : ByteArray) (ask : Bool) (has : Bool) (at_ : Int) (w : World) :
    Calls Tryd.prog 91 #[.agg #[.string name, .bool ask, .bool has, .int .i64 at_], .agg #[.string name, .bool ask, .bool has, .int .i64 at_]] w fun e w' => e = .returned (.bool true) ∧ Below w.heap.size w w' := by
  go_enter Tryd.func91, Tryd.ntmps91
  go_wp2
  go_ret
  exact ⟨rfl, ((Below.refl _ _).alloc (Nat.le_refl _) _).alloc (by simp) _⟩

set_option maxHeartbeats 1000000 in
theorem eqLinkS_row (b off cap b2 off2 cap2 n : Nat) (f : Nat → Link) (w : World) (hn : n ≤ 1048576) (hb : b < w.heap.size) (hf : ∀ i, i < n → AtLink w b off i (f i)) (hb2 : b2 < w.heap.size) (hf2 : ∀ i, i < n → AtLink w b2 off2 i (f i)) :
    Calls Tryd.prog 79 #[.slice (some ⟨b, off, none⟩) n cap, .slice (some ⟨b2, off2, none⟩) n cap2] w fun e w' => e = .returned (.bool true) ∧ Below w.heap.size w w' := by
  have HF := hide hf
  have HF2 := hide hf2
  clear hf hf2
  go_enter Tryd.func79, Tryd.ntmps79
  go_wp2
  go_loopw [5] (fun i wr => ∃ k : Nat, k ≤ n ∧ i = .int .i64 k ∧ Below w.heap.size w wr) (fun i _ => n - (intOf i).toNat)
  case atStart => exact ⟨0, by omega, rfl, Below.refl _ _⟩
  case round =>
    obtain ⟨k, hk, rfl, hB⟩ := hrel
    have HB := hide hB
    have hsz : w.heap.size ≤ wr.heap.size := hB.size
    clear hB
    by_cases hlt : k < n
    · obtain ⟨c0, c1, c2, c3⟩ := (HF.out k hlt).below HB.out hb
      obtain ⟨d0, d1, d2, d3⟩ := (HF2.out k hlt).below HB.out hb2
      go_wp2_with fail
      go_region_with (go_at_call 91; refine (eqLink_same _ _ _ _ _).mono ?_; rintro e w' ⟨rfl, hB'⟩)
      all_goals
        go_wp2
        exact ⟨⟨k + 1, by omega, by go_num, Below.trans (by repeat (first | exact HB.out | apply Below.drew)) (hB'.mono hsz)⟩, by simp [intOf]; omega⟩
    · have e : k = n := by omega
      subst e
      go_wp2
      go_ret
      exact ⟨rfl, HB.out⟩

set_option maxHeartbeats 1000000 in
theorem eqLinkS_nil (a a2 : Option Addr) (cap cap2 : Nat) (w : World) :
    Calls Tryd.prog 79 #[.slice a 0 cap, .slice a2 0 cap2] w fun e w' => e = .returned (.bool true) ∧ w' = w := by
  go_enter Tryd.func79, Tryd.ntmps79
  go_wp2
  go_loop [5] (fun i => i = .int .i64 0) (fun _ => 0)
  case atStart => rfl
  case round =>
    subst hrel
    go_wp2
    go_ret
    exact ⟨rfl, rfl⟩

/-- The same elements: equal. -/
theorem eqLinkS_any (a a2 : Option Addr) (cap cap2 n : Nat) (f : Nat → Link) (w : World) (hn : n ≤ 1048576) (h : SlLink w a n f) (h2 : SlLink w a2 n f) :
    Calls Tryd.prog 79 #[.slice a n cap, .slice a2 n cap2] w fun e w' => e = .returned (.bool true) ∧ Below w.heap.size w w' := by
  by_cases hz : n = 0
  · subst hz
    exact (eqLinkS_nil a a2 cap cap2 w).mono fun _ _ ⟨a, b⟩ => ⟨a, by rw [b]; exact Below.refl _ _⟩
  · rcases h with h | ⟨b, off, rfl, hb, hf⟩
    · exact absurd h hz
    · rcases h2 with h | ⟨b2, off2, rfl, hb2, hf2⟩
      · exact absurd h hz
      · exact eqLinkS_row b off cap b2 off2 cap2 n f w hn hb hf hb2 hf2

end Go.Proofs.YtggchgpphhhleaaDoor.Vp

/-
  Marks of links.
-/
namespace Go.Proofs.YtggchgpphhhleaaDoor.Vp
open Go.RowKit

/-- What cell j of a marked row holds. -/
def markLink (k0 : Nat) (j : Nat) : Value := if j % 4 = 0 then .string (mkT ((k0 : Int) + j)) else if j % 4 = 3 then .int .i64 ((k0 : Int) + j) else .bool (decide (((k0 : Int) + j) % 3 = 0))
theorem markLink_0 {k0 k q : Nat} (h : q = k0 + k * 4) : markLink k0 (k * 4) = .string (mkT (q : Int)) := by
  have e : (k0 : Int) + ((k * 4 : Nat) : Int) = (q : Int) := by omega
  unfold markLink
  rw [if_pos (by omega), e]
theorem markLink_1 {k0 k q : Nat} (h : q = k0 + k * 4) : markLink k0 (k * 4 + 1) = .bool (decide (((q : Int) + 1) % 3 = 0)) := by
  have e : (k0 : Int) + ((k * 4 + 1 : Nat) : Int) = (q : Int) + 1 := by omega
  unfold markLink
  rw [if_neg (by omega), if_neg (by omega), e]
theorem markLink_2 {k0 k q : Nat} (h : q = k0 + k * 4) : markLink k0 (k * 4 + 2) = .bool (decide (((q : Int) + 2) % 3 = 0)) := by
  have e : (k0 : Int) + ((k * 4 + 2 : Nat) : Int) = (q : Int) + 2 := by omega
  unfold markLink
  rw [if_neg (by omega), if_neg (by omega), e]
theorem markLink_3 {k0 k q : Nat} (h : q = k0 + k * 4) : markLink k0 (k * 4 + 3) = .int .i64 ((q : Int) + 3) := by
  have e : (k0 : Int) + ((k * 4 + 3 : Nat) : Int) = (q : Int) + 3 := by omega
  unfold markLink
  rw [if_neg (by omega), if_pos (by omega), e]

set_option maxRecDepth 100000 in
set_option maxHeartbeats 4000000 in
theorem markLinkS_row (b off n cap k0 : Nat) (F : Nat → Value) (w : World) (hn : (n : Int) ≤ 1048576) (h1 : 1 ≤ (k0 : Int)) (h2 : (k0 : Int) ≤ 1152921504606846976) (hC : Cells w b off (n * 4) F) :
    Calls Tryd.prog 64 #[.slice (some ⟨b, off, none⟩) n cap, .int .i64 k0] w fun e w' => e = .returned (.int .i64 ((k0 + n * 4 : Nat) : Int)) ∧ Cells w' b off (n * 4) (markLink k0) ∧ Within b (b + 1) w w' := by
  have HC := hide hC
  clear hC
  go_enter Tryd.func64, Tryd.ntmps64
  go_wp2
  go_loopw [1, 5] (fun v i wr => ∃ (k q : Nat) (F : Nat → Value), k ≤ n ∧ Hid (q = k0 + k * 4) ∧ i = .int .i64 k ∧ v = .int .i64 q ∧ Hid (Cells wr b off (n * 4) F) ∧ Hid (∀ j, j < k * 4 → F j = markLink k0 j) ∧ Hid (Within b (b + 1) w wr)) (fun _ i _ => n - (intOf i).toNat)
  case atStart => exact ⟨0, k0, F, by omega, by show k0 = _; omega, rfl, rfl, HC.out, fun j hj => by omega, Within.refl _ _ _⟩
  case round =>
    obtain ⟨k, q, F, hk, HQ, rfl, rfl, HC0, HM, HW0⟩ := hrel
    have hq1 : 1 ≤ (q : Int) := by have := HQ.out; omega
    have hq2 : (q : Int) ≤ 1152921504620000000 := by have := HQ.out; omega
    by_cases hlt : k < n
    · have hkk : k * 4 + 4 ≤ n * 4 := by omega
      go_wp2_with fail
      refine (markText_int (q : Int) _ (by omega) (by omega)).mono ?_
      rintro e w1 ⟨rfl, hB⟩
      have HC1 := hide (HC0.out.below hB HC0.out.1)
      have HW1 := hide (HW0.out.below hB (Nat.le_refl _))
      clear hB
      obtain ⟨c0, z0⟩ := HC1.out.at (off + k * 4) (k * 4) (by omega) (by omega)
      obtain ⟨c1, z1⟩ := HC1.out.at (off + k * 4 + 1) (k * 4 + 1) (by omega) (by omega)
      obtain ⟨c2, z2⟩ := HC1.out.at (off + k * 4 + 2) (k * 4 + 2) (by omega) (by omega)
      obtain ⟨c3, z3⟩ := HC1.out.at (off + k * 4 + 3) (k * 4 + 3) (by omega) (by omega)
      go_wp2
      refine ⟨⟨k + 1, q + 4, _, by omega, by show q + 4 = k0 + (k + 1) * 4; have := HQ.out; omega, by go_num, by go_num, (((HC1.out.setAt (off + k * 4) (k * 4) (by omega) (by omega) _).setAt (off + k * 4 + 1) (k * 4 + 1) (by omega) (by omega) _).setAt (off + k * 4 + 2) (k * 4 + 2) (by omega) (by omega) _).setAt (off + k * 4 + 3) (k * 4 + 3) (by omega) (by omega) _, ?_, (((HW1.out.setCell (p := ⟨b, off + k * 4, none⟩) (Nat.le_refl _) (Nat.lt_succ_self _) _).setCell (p := ⟨b, off + k * 4 + 1, none⟩) (Nat.le_refl _) (Nat.lt_succ_self _) _).setCell (p := ⟨b, off + k * 4 + 2, none⟩) (Nat.le_refl _) (Nat.lt_succ_self _) _).setCell (p := ⟨b, off + k * 4 + 3, none⟩) (Nat.le_refl _) (Nat.lt_succ_self _) _⟩, by simp [intOf]; omega⟩
      intro j hj
      rcases (show j < k * 4 ∨ j = k * 4 ∨ j = k * 4 + 1 ∨ j = k * 4 + 2 ∨ j = k * 4 + 3 by omega) with h | rfl | rfl | rfl | rfl
      · rw [if_neg (by omega), if_neg (by omega), if_neg (by omega), if_neg (by omega), HM.out j h]
      · rw [if_neg (by omega), if_neg (by omega), if_neg (by omega), if_pos rfl, markLink_0 HQ.out]
      · rw [if_neg (by omega), if_neg (by omega), if_pos rfl, markLink_1 HQ.out]
        rfl
      · rw [if_neg (by omega), if_pos rfl, markLink_2 HQ.out]
        rfl
      · rw [if_pos rfl, markLink_3 HQ.out, show (q : Int) + 1 + 1 + 1 = (q : Int) + 3 by omega]
    · have e : k = n := by omega
      subst e
      have hv : (q : Int) = ((k0 + k * 4 : Nat) : Int) := by rw [HQ.out]
      have HV := hide hv
      clear hv
      go_wp2
      go_ret
      exact ⟨by show Ending.returned (.int .i64 (q : Int)) = _; rw [HV.out], HC0.out.congr HM.out, HW0.out⟩

set_option maxHeartbeats 1000000 in
theorem markLinkS_nil (a : Option Addr) (cap k0 : Nat) (w : World) : Calls Tryd.prog 64 #[.slice a 0 cap, .int .i64 k0] w fun e w' => e = .returned (.int .i64 (k0 : Int)) ∧ w' = w := by
  go_enter Tryd.func64, Tryd.ntmps64
  go_wp2
  go_loop [1, 5] (fun v i => v = .int .i64 k0 ∧ i = .int .i64 0) (fun _ _ => 0)
  case atStart => exact ⟨rfl, rfl⟩
  case round =>
    obtain ⟨rfl, rfl⟩ := hrel
    go_wp2
    go_ret
    exact ⟨rfl, rfl⟩

end Go.Proofs.YtggchgpphhhleaaDoor.Vp

/-
  What marking leaves.
-/
namespace Go.Proofs.YtggchgpphhhleaaDoor.Vp
open Go.RowKit

/-- Blocks that are none of P's stand as they stood. -/
structure Touch (P : Nat → Prop) (w w' : World) : Prop where
  os : w'.os = w.os
  tape : w'.tape = w.tape
  output : w'.output = w.output
  size : w.heap.size ≤ w'.heap.size
  block : ∀ k, k < w.heap.size → ¬ P k → w'.heap[k]? = w.heap[k]?
theorem Touch.refl (P : Nat → Prop) (w : World) : Touch P w w := ⟨rfl, rfl, rfl, Nat.le_refl _, fun _ _ _ => rfl⟩
theorem Touch.trans {P : Nat → Prop} {a b c : World} (h : Touch P a b) (k : Touch P b c) : Touch P a c :=
  ⟨k.os.trans h.os, k.tape.trans h.tape, k.output.trans h.output, Nat.le_trans h.size k.size, fun i hi ho => (k.block i (Nat.lt_of_lt_of_le hi h.size) ho).trans (h.block i hi ho)⟩
theorem Touch.of_below {P : Nat → Prop} {B : Nat} {w w' : World} (h : Below B w w') (hB : w.heap.size ≤ B) : Touch P w w' :=
  ⟨h.os, h.tape, h.output, h.size, fun i hi _ => h.block i (Nat.lt_of_lt_of_le hi hB)⟩
theorem Touch.below {P : Nat → Prop} {B : Nat} {a w w' : World} (h : Touch P a w) (hb : Below B w w') (hB : w.heap.size ≤ B) : Touch P a w' := h.trans (Touch.of_below hb hB)
theorem Touch.setCell {P : Nat → Prop} {a w : World} (h : Touch P a w) {p : Addr} (hp : P p.block) (v : Value) : Touch P a (w.setCell p v) :=
  h.trans ⟨rfl, rfl, rfl, by simp [World.setCell], fun k _ ho => Below.heap_setCell _ _ _ _ (fun e => ho (e ▸ hp))⟩
theorem Touch.of_within {P : Nat → Prop} {b : Nat} {w w' : World} (h : Within b (b + 1) w w') (hb : P b) : Touch P w w' :=
  ⟨h.os, h.tape, h.output, h.size, fun k hk ho => h.block k hk (by rcases Nat.lt_trichotomy k b with c | c | c; exact .inl c; exact absurd (c ▸ hb) ho; exact .inr c)⟩
theorem Touch.mono {P Q : Nat → Prop} {w w' : World} (h : Touch P w w') (hPQ : ∀ k, P k → Q k) : Touch Q w w' :=
  ⟨h.os, h.tape, h.output, h.size, fun k hk ho => h.block k hk (fun hp => ho (hPQ k hp))⟩
theorem Cells.touch {w w' : World} {b off m : Nat} {F : Nat → Value} {P : Nat → Prop} (h : Cells w b off m F) (hw : Touch P w w') (hb : ¬ P b) : Cells w' b off m F := by
  have e := hw.block b h.1 hb
  exact ⟨Nat.lt_of_lt_of_le h.1 hw.size, fun j hj => ⟨(World.cell?_of_block (a := ⟨b, off + j, none⟩) e).trans (h.2 j hj).1, (World.frozen?_of_block (a := ⟨b, off + j, none⟩) e).trans (h.2 j hj).2⟩⟩

/-- A row of m cells, or none. -/
def Room (w : World) (p : Option Addr) (n b m : Nat) : Prop := n = 0 ∨ (p = some ⟨b, 0, none⟩ ∧ ∃ G, Cells w b 0 m G)
theorem Touch.toBelow {P : Nat → Prop} {w w' : World} {B : Nat} (h : Touch P w w') (hP : ∀ x, P x → B ≤ x) (hB : B ≤ w.heap.size) : Below B w w' :=
  ⟨h.os, h.tape, h.output, h.size, fun k hk => h.block k (by omega) (fun hp => by have := hP k hp; omega)⟩
theorem Touch.cell {P : Nat → Prop} {w w' : World} (h : Touch P w w') {p : Addr} (hl : p.block < w.heap.size) (hp : ¬ P p.block) : w'.cell? p = w.cell? p := World.cell?_of_block (h.block p.block hl hp)

end Go.Proofs.YtggchgpphhhleaaDoor.Vp

/-
  Data: Program, a struct of one slice of Ins. Written by tools/wrap.py.
-/
namespace Go.Proofs.YtggchgpphhhleaaDoor.Vp
open Go.RowKit

set_option maxHeartbeats 400000 in
theorem szProgram_any (a : Option Addr) (n cap : Nat) (f : Nat → Ins) (left : Int) (w : World) (h0 : 0 ≤ left) (h1 : left ≤ 1048576) (hn : (n : Int) ≤ 9223372036854775807) (hv : SlIns w a n f) (hs : ∀ i, i < n → (f i).s.size ≤ maxLen) :
    Calls Tryd.prog 67 #[.agg #[.slice a n cap], .int .i64 left] w fun e w' => ∃ r : Int, e = .returned (.int .i64 r) ∧ -1 ≤ r ∧ r ≤ left ∧ (0 ≤ r → (n : Int) ≤ left) ∧ Below w.heap.size w w' := by
  have HV := hide hv
  have HS := hide hs
  clear hv hs
  go_enter Tryd.func67, Tryd.ntmps67
  go_wp2_with fail
  refine (szInsS_any a n cap f left _ h0 h1 hn (HV.out.below ((Below.refl _ _).alloc (Nat.le_refl _) _) (Nat.le_refl _)) HS.out).mono ?_
  rintro e w' ⟨r, rfl, hr1, hr2, hr3, hB⟩
  go_wp2
  all_goals go_ret
  · exact ⟨-1, rfl, by omega, by omega, fun _ => by omega, ((Below.refl _ _).alloc (Nat.le_refl _) _).trans (hB.mono (by simp))⟩
  · exact ⟨r, rfl, hr1, hr2, hr3, ((Below.refl _ _).alloc (Nat.le_refl _) _).trans (hB.mono (by simp))⟩

set_option maxHeartbeats 1000000 in
theorem toProgram_any (a : Option Addr) (n cap : Nat) (f : Nat → Ins) (w : World) (hn : n ≤ 1048576) (hv : SlIns w a n f) :
    Calls Tryd.prog 70 #[.agg #[.slice a n cap]] w fun e w' => ∃ g, e = .returned (.agg #[.slice (some ⟨g, 0, none⟩) n n]) ∧ RowIns w' g 0 n f ∧ w.heap.size ≤ g ∧ Below w.heap.size w w' := by
  have HV := hide hv
  clear hv
  go_enter Tryd.func70, Tryd.ntmps70
  go_wp2_with fail
  refine (toInsS_any a n cap f _ hn (HV.out.below ((((Below.refl _ _).alloc (Nat.le_refl _) _).alloc (by simp) _).alloc (by simp; omega) _) (Nat.le_refl _))).mono ?_
  rintro e w' ⟨g, rfl, hv', hg, hB⟩
  have HV' := hide hv'
  have HB := hide hB
  obtain ⟨hc, hz⟩ := bcell hB
  clear hv' hB
  simp at hg
  go_wp2
  refine bodyPost_ret (v := .agg #[.slice (some ⟨g, 0, none⟩) n n]) (by simp [results, Tryd.results70, go_sem, hc]) rfl ⟨g, rfl, (HV'.out.setOther _ (by simp; omega) _).setOther _ (by simp; omega) _, by omega, ?_⟩
  exact ((((((Below.refl _ _).alloc (Nat.le_refl _) _).alloc (by simp) _).alloc (by simp; omega) _).trans (HB.out.mono (by simp; omega))).setCell (by simp; omega) _).setCell (by simp) _

set_option maxHeartbeats 1000000 in
theorem eqProgram_any (a a2 : Option Addr) (cap cap2 n : Nat) (f : Nat → Ins) (w : World) (hn : n ≤ 1048576) (h : SlIns w a n f) (h2 : SlIns w a2 n f) :
    Calls Tryd.prog 78 #[.agg #[.slice a n cap], .agg #[.slice a2 n cap2]] w fun e w' => e = .returned (.bool true) ∧ Below w.heap.size w w' := by
  have HF := hide h
  have HF2 := hide h2
  clear h h2
  go_enter Tryd.func78, Tryd.ntmps78
  go_wp2_with fail
  have hA := hide (((Below.refl w.heap.size w).alloc (Nat.le_refl _) (.cells #[.slice a n cap] 56)).alloc (by simp) (.cells #[.slice a2 n cap2] 56))
  refine (eqInsS_any a a2 cap cap2 n f _ hn (HF.out.below hA.out (Nat.le_refl _)) (HF2.out.below hA.out (Nat.le_refl _))).mono ?_
  rintro e w' ⟨rfl, hB⟩
  go_wp2
  go_ret
  exact ⟨rfl, hA.out.trans (hB.mono (by simp; omega))⟩

end Go.Proofs.YtggchgpphhhleaaDoor.Vp

/-
  Data: Deed: sizes, copies, comparisons; its cells hold slices. Written by tools/nest.py.
-/
namespace Go.Proofs.YtggchgpphhhleaaDoor.Vp
open Go.RowKit

structure Deed where
  name : ByteArray
  kind : Int
  code : Int
  text : ByteArray
  actN : Nat
  act : Nat → Ins
  linksN : Nat
  links : Nat → Link
/-- What each reading gives: no text is too long for an int, no slice. -/
def SizedDeed (x : Deed) : Prop := x.name.size ≤ maxLen ∧ x.text.size ≤ maxLen ∧ ((x.actN : Int) ≤ 9223372036854775807 ∧ ∀ j, j < x.actN → (x.act j).s.size ≤ maxLen) ∧ ((x.linksN : Int) ≤ 9223372036854775807 ∧ ∀ j, j < x.linksN → (x.links j).name.size ≤ maxLen)
/-- No slice is longer than what the law lets in. -/
def FitsDeed (x : Deed) : Prop := x.actN ≤ 1048576 ∧ x.linksN ≤ 1048576

/-- The cells of element i of a row that begins at off in block b. -/
def AtDeed (w : World) (b off i : Nat) (x : Deed) : Prop :=
  w.cell? ⟨b, off + i * 6, none⟩ = some (.string x.name) ∧ w.cell? ⟨b, off + i * 6 + 1, none⟩ = some (.int .i64 x.kind) ∧ w.cell? ⟨b, off + i * 6 + 2, none⟩ = some (.int .i64 x.code) ∧ w.cell? ⟨b, off + i * 6 + 3, none⟩ = some (.string x.text) ∧ (∃ a cap, w.cell? ⟨b, off + i * 6 + 4, none⟩ = some (.slice a x.actN cap) ∧ SlIns w a x.actN x.act) ∧ (∃ a cap, w.cell? ⟨b, off + i * 6 + 5, none⟩ = some (.slice a x.linksN cap) ∧ SlLink w a x.linksN x.links)
theorem AtDeed.below {w w' : World} {B b off i : Nat} {x : Deed} (h : AtDeed w b off i x) (hb : Below B w w') (hB : w.heap.size ≤ B) (hl : b < w.heap.size) : AtDeed w' b off i x := by
  obtain ⟨p0, p1, p2, p3, ⟨a0, cap0, s0, r0⟩, ⟨a1, cap1, s1, r1⟩⟩ := h
  refine ⟨(hb.cell (p := ⟨b, _, none⟩) (Nat.lt_of_lt_of_le hl hB)).trans p0, (hb.cell (p := ⟨b, _, none⟩) (Nat.lt_of_lt_of_le hl hB)).trans p1, (hb.cell (p := ⟨b, _, none⟩) (Nat.lt_of_lt_of_le hl hB)).trans p2, (hb.cell (p := ⟨b, _, none⟩) (Nat.lt_of_lt_of_le hl hB)).trans p3, ⟨a0, cap0, (hb.cell (p := ⟨b, _, none⟩) (Nat.lt_of_lt_of_le hl hB)).trans s0, r0.below hb hB⟩, ⟨a1, cap1, (hb.cell (p := ⟨b, _, none⟩) (Nat.lt_of_lt_of_le hl hB)).trans s1, r1.below hb hB⟩⟩
def RowDeed (w : World) (b off n : Nat) (f : Nat → Deed) : Prop := b < w.heap.size ∧ ∀ i, i < n → AtDeed w b off i (f i)
theorem RowDeed.below {w w' : World} {B b off n : Nat} {f : Nat → Deed} (h : RowDeed w b off n f) (hb : Below B w w') (hB : w.heap.size ≤ B) : RowDeed w' b off n f :=
  ⟨Nat.lt_of_lt_of_le h.1 hb.size, fun i hi => (h.2 i hi).below hb hB h.1⟩
def SlDeed (w : World) (a : Option Addr) (n : Nat) (f : Nat → Deed) : Prop := n = 0 ∨ ∃ b off, a = some ⟨b, off, none⟩ ∧ RowDeed w b off n f
theorem SlDeed.below {w w' : World} {B : Nat} {a : Option Addr} {n : Nat} {f : Nat → Deed} (h : SlDeed w a n f) (hb : Below B w w') (hB : w.heap.size ≤ B) : SlDeed w' a n f := by
  rcases h with h | ⟨b, off, hv, hr⟩
  · exact .inl h
  · exact .inr ⟨b, off, hv, hr.below hb hB⟩
theorem RowDeed.sl {w : World} {b off n : Nat} {f : Nat → Deed} (h : RowDeed w b off n f) : SlDeed w (some ⟨b, off, none⟩) n f := .inr ⟨b, off, rfl, h⟩

set_option maxHeartbeats 1000000 in
theorem szDeed_any (x : Deed) (a0 : Option Addr) (cap0 : Nat) (a1 : Option Addr) (cap1 : Nat) (left : Int) (w : World) (hz : SizedDeed x) (hv0 : SlIns w a0 x.actN x.act) (hv1 : SlLink w a1 x.linksN x.links) (l0 : 0 ≤ left) (l1 : left ≤ 1048576) :
    Calls Tryd.prog 52 #[.agg #[.string x.name, .int .i64 x.kind, .int .i64 x.code, .string x.text, .slice a0 x.actN cap0, .slice a1 x.linksN cap1], .int .i64 left] w fun e w' => ∃ r : Int, e = .returned (.int .i64 r) ∧ -1 ≤ r ∧ r ≤ left ∧ (0 ≤ r → FitsDeed x) ∧ Below w.heap.size w w' := by
  have V0 := hide hv0
  have V1 := hide hv1
  clear hv0 hv1
  have zname := hz.1
  have ztext := hz.2.1
  unfold maxLen at zname ztext
  have Sz := hide hz
  clear hz
  have B0 := hide ((Below.refl w.heap.size w).alloc (Nat.le_refl _) (.cells #[.string x.name, .int .i64 x.kind, .int .i64 x.code, .string x.text, .slice a0 x.actN cap0, .slice a1 x.linksN cap1] 89))
  go_enter Tryd.func52, Tryd.ntmps52
  go_wp2_with (first | (go_at_call 67; refine (szProgram_any a0 x.actN cap0 x.act _ _ ?_ ?_ (Sz.out.2.2).1.1 ?_ (Sz.out.2.2).1.2).mono ?_; omega; omega; exact V0.out.below B0.out (Nat.le_refl _); rintro e w1 ⟨r0, rfl, l0, m0, n0, hB0⟩; have B1 := hide (B0.out.trans (hB0.mono B0.out.size)); have bc0 := (bcell hB0).1; clear hB0) | (go_at_call 68; refine (szLinkS_any a1 x.linksN cap1 x.links _ _ ?_ ?_ (Sz.out.2.2).2.1 ?_ (Sz.out.2.2).2.2).mono ?_; omega; omega; exact V1.out.below B1.out (Nat.le_refl _); rintro e w2 ⟨r1, rfl, l1, m1, n1, hB1⟩; have B2 := hide (B1.out.trans (hB1.mono B1.out.size)); have bc1 := (bcell hB1).1; clear hB1))
  all_goals go_ret
  all_goals first
    | exact ⟨-1, rfl, by omega, by omega, fun _ => by omega, by first | exact B2.out | exact B1.out | exact B0.out⟩
    | exact ⟨_, rfl, by omega, by omega, fun _ => ⟨by have := n0 (by omega); omega, by have := n1 (by omega); omega⟩, B2.out⟩

set_option maxHeartbeats 400000 in
theorem szDeedS_big (a : Option Addr) (n cap : Nat) (left : Int) (w : World) (h0 : 0 ≤ left) (h1 : left ≤ 1048576) (hn : (n : Int) ≤ 9223372036854775807) (h : left < (n : Int)) :
    Calls Tryd.prog 32 #[.slice a n cap, .int .i64 left] w fun e w' => e = .returned (.int .i64 (-1)) ∧ w' = w := by
  go_enter Tryd.func32, Tryd.ntmps32
  go_wp2
  go_ret
  exact ⟨rfl, rfl⟩

set_option maxHeartbeats 1000000 in
theorem szDeedS_row (b off n cap : Nat) (f : Nat → Deed) (left : Int) (w : World) (h0 : (n : Int) ≤ left) (h1 : left ≤ 1048576) (hf : RowDeed w b off n f) (hs : ∀ i, i < n → SizedDeed (f i)) :
    Calls Tryd.prog 32 #[.slice (some ⟨b, off, none⟩) n cap, .int .i64 left] w fun e w' => ∃ r : Int, e = .returned (.int .i64 r) ∧ -1 ≤ r ∧ r ≤ left ∧ (0 ≤ r → ∀ i, i < n → FitsDeed (f i)) ∧ Below w.heap.size w w' := by
  have HF := hide hf
  have HS := hide hs
  clear hf hs
  go_enter Tryd.func32, Tryd.ntmps32
  go_wp2
  go_loopw [1, 5] (fun l i wr => ∃ k : Nat, ∃ r : Int, k ≤ n ∧ 0 ≤ r ∧ r ≤ left ∧ i = .int .i64 k ∧ l = .int .i64 r ∧ Hid (∀ i, i < k → FitsDeed (f i)) ∧ Below w.heap.size w wr) (fun _ i _ => n - (intOf i).toNat)
  case atStart => exact ⟨0, left - n, by omega, by omega, by omega, rfl, rfl, fun i hi => absurd hi (Nat.not_lt_zero _), Below.refl _ _⟩
  case round =>
    obtain ⟨k, r, hk, hr0, hr1, rfl, rfl, hfit, hB⟩ := hrel
    have HB := hide hB
    have hsz : w.heap.size ≤ wr.heap.size := hB.size
    clear hB
    by_cases hlt : k < n
    · obtain ⟨p0, p1, p2, p3, ⟨a0, cap0, s0, r0⟩, ⟨a1, cap1, s1, r1⟩⟩ := (HF.out.2 k hlt).below HB.out (Nat.le_refl _) HF.out.1
      have HR := hide (show SlIns wr a0 (f k).actN (f k).act ∧ SlLink wr a1 (f k).linksN (f k).links from ⟨r0, r1⟩)
      clear r0 r1
      go_wp2_with fail
      refine (szDeed_any (f k) a0 cap0 a1 cap1 _ _ (HS.out k hlt) HR.out.1 HR.out.2 (by omega) (by omega)).mono ?_
      rintro e w' ⟨r', rfl, hr2, hr3, hr4, hB'⟩
      have HR4 := hide hr4
      have HB' := hide (HB.out.trans (hB'.mono hsz))
      clear hr4 hB'
      go_wp2
      · go_ret
        exact ⟨-1, rfl, by omega, by omega, fun _ => by omega, HB'.out⟩
      · exact ⟨⟨k + 1, r', by omega, by omega, by omega, by go_num, rfl, fun i hi => by
          by_cases e : i = k
          · subst e; exact HR4.out (by omega)
          · exact hfit i (by omega), HB'.out⟩, by simp [intOf]; omega⟩
    · have e : k = n := by omega
      subst e
      go_wp2
      go_ret
      exact ⟨r, rfl, by omega, by omega, fun _ => hfit, HB.out⟩

set_option maxHeartbeats 400000 in
theorem szDeedS_nil (a : Option Addr) (cap : Nat) (left : Int) (w : World) (h0 : 0 ≤ left) (h1 : left ≤ 1048576) :
    Calls Tryd.prog 32 #[.slice a 0 cap, .int .i64 left] w fun e w' => e = .returned (.int .i64 left) ∧ w' = w := by
  go_enter Tryd.func32, Tryd.ntmps32
  go_wp2
  go_loop [1, 5] (fun l i => l = .int .i64 left ∧ i = .int .i64 0) (fun _ _ => 0)
  case atStart => exact ⟨by simp, rfl⟩
  case round =>
    obtain ⟨rfl, rfl⟩ := hrel
    go_wp2
    go_ret
    exact ⟨rfl, rfl⟩

theorem szDeedS_any (a : Option Addr) (n cap : Nat) (f : Nat → Deed) (left : Int) (w : World) (h0 : 0 ≤ left) (h1 : left ≤ 1048576) (hn : (n : Int) ≤ 9223372036854775807) (hv : SlDeed w a n f) (hs : ∀ i, i < n → SizedDeed (f i)) :
    Calls Tryd.prog 32 #[.slice a n cap, .int .i64 left] w fun e w' => ∃ r : Int, e = .returned (.int .i64 r) ∧ -1 ≤ r ∧ r ≤ left ∧ (0 ≤ r → (n : Int) ≤ left ∧ ∀ i, i < n → FitsDeed (f i)) ∧ Below w.heap.size w w' := by
  rcases hv with rfl | ⟨b, off, rfl, hr⟩
  · exact (szDeedS_nil a cap left w h0 h1).mono fun e w' ⟨a, b⟩ => ⟨_, a, by omega, by omega, fun _ => ⟨by omega, fun i hi => absurd hi (Nat.not_lt_zero _)⟩, by rw [b]; exact Below.refl _ _⟩
  · by_cases h : (n : Int) ≤ left
    · exact (szDeedS_row b off n cap f left w h h1 hr hs).mono fun e w' ⟨r, a, b, c, d, e⟩ => ⟨r, a, b, c, fun g => ⟨h, d g⟩, e⟩
    · exact (szDeedS_big _ n cap left w h0 h1 hn (by omega)).mono fun e w' ⟨a, b⟩ => ⟨_, a, by omega, by omega, fun _ => by omega, by rw [b]; exact Below.refl _ _⟩

set_option maxHeartbeats 2000000 in
theorem toDeed_any (x : Deed) (a0 : Option Addr) (cap0 : Nat) (a1 : Option Addr) (cap1 : Nat) (w : World) (hfit : FitsDeed x) (hv0 : SlIns w a0 x.actN x.act) (hv1 : SlLink w a1 x.linksN x.links) :
    Calls Tryd.prog 57 #[.agg #[.string x.name, .int .i64 x.kind, .int .i64 x.code, .string x.text, .slice a0 x.actN cap0, .slice a1 x.linksN cap1]] w fun e w' => ∃ g0 g1, e = .returned (.agg #[.string x.name, .int .i64 x.kind, .int .i64 x.code, .string x.text, .slice (some ⟨g0, 0, none⟩) x.actN x.actN, .slice (some ⟨g1, 0, none⟩) x.linksN x.linksN]) ∧ RowIns w' g0 0 x.actN x.act ∧ w.heap.size ≤ g0 ∧ RowLink w' g1 0 x.linksN x.links ∧ w.heap.size ≤ g1 ∧ Below w.heap.size w w' := by
  have V0 := hide hv0
  have V1 := hide hv1
  clear hv0 hv1
  have hfit := hide hfit
  have A0 : Hid (Below w.heap.size w (((w.alloc (.cells #[.string x.name, .int .i64 x.kind, .int .i64 x.code, .string x.text, .slice a0 x.actN cap0, .slice a1 x.linksN cap1] 89)).alloc (.cells #[.string ⟨#[]⟩, .int .i64 0, .int .i64 0, .string ⟨#[]⟩, .slice none 0 0, .slice none 0 0] 59)).alloc (.cells #[.string x.name, .int .i64 x.kind, .int .i64 x.code, .string x.text, .slice none 0 0, .slice none 0 0] 59))) := (((Below.refl _ _).alloc (Nat.le_refl _) _).alloc (by simp) _).alloc (by first | (simp; omega) | simp) _
  go_enter Tryd.func57, Tryd.ntmps57
  go_wp2_with fail
  refine (toProgram_any a0 x.actN cap0 x.act _ hfit.out.1 (V0.out.below A0.out (Nat.le_refl _))).mono ?_
  rintro e w1 ⟨g0, rfl, hR0, hg0, hB1⟩
  have R0 := hide hR0
  obtain ⟨hc1, hz1⟩ := bcell hB1
  have B1 := hide (A0.out.trans (hB1.mono A0.out.size))
  have hs1 : w.heap.size + 1 + 1 < w1.heap.size := by have := hB1.size; simp at this; omega
  have hu1 : w.heap.size + 1 < w1.heap.size := by omega
  have ht1 : w.heap.size < w1.heap.size := by omega
  have D1 := hide hB1
  clear hR0 hB1
  simp at hg0
  go_wp2_with fail
  have A1 := hide (B1.out.setCell (p := ⟨w.heap.size + 1 + 1, 4, none⟩) (by first | (simp; omega) | simp) (.slice (some ⟨g0, 0, none⟩) x.actN x.actN))
  refine (toLinkS_any a1 x.linksN cap1 x.links _ hfit.out.2 (V1.out.below A1.out (Nat.le_refl _))).mono ?_
  rintro e w2 ⟨g1, rfl, hR1, hg1, hB2⟩
  have R1 := hide hR1
  obtain ⟨hc2, hz2⟩ := bcell hB2
  have B2 := hide (A1.out.trans (hB2.mono A1.out.size))
  have hs2 : w.heap.size + 1 + 1 < w2.heap.size := by have := hB2.size; simp at this; omega
  have hu2 : w.heap.size + 1 < w2.heap.size := by omega
  have ht2 : w.heap.size < w2.heap.size := by omega
  have D2 := hide hB2
  clear hR1 hB2
  simp at hg1
  have q0 : w2.cell? ⟨w.heap.size + 1, 0, none⟩ = some (.string ⟨#[]⟩) := by
    rw [D2.out.cell (p := ⟨w.heap.size + 1, 0, none⟩) (by first | (simp; omega) | simp), cell_far _ _ _ _ (by simp)]
    rw [D1.out.cell (p := ⟨w.heap.size + 1, 0, none⟩) (by first | (simp; omega) | simp)]
    simp [go_sem]
  have q1 : w2.cell? ⟨w.heap.size + 1, 1, none⟩ = some (.int .i64 0) := by
    rw [D2.out.cell (p := ⟨w.heap.size + 1, 1, none⟩) (by first | (simp; omega) | simp), cell_far _ _ _ _ (by simp)]
    rw [D1.out.cell (p := ⟨w.heap.size + 1, 1, none⟩) (by first | (simp; omega) | simp)]
    simp [go_sem]
  have q2 : w2.cell? ⟨w.heap.size + 1, 2, none⟩ = some (.int .i64 0) := by
    rw [D2.out.cell (p := ⟨w.heap.size + 1, 2, none⟩) (by first | (simp; omega) | simp), cell_far _ _ _ _ (by simp)]
    rw [D1.out.cell (p := ⟨w.heap.size + 1, 2, none⟩) (by first | (simp; omega) | simp)]
    simp [go_sem]
  have q3 : w2.cell? ⟨w.heap.size + 1, 3, none⟩ = some (.string ⟨#[]⟩) := by
    rw [D2.out.cell (p := ⟨w.heap.size + 1, 3, none⟩) (by first | (simp; omega) | simp), cell_far _ _ _ _ (by simp)]
    rw [D1.out.cell (p := ⟨w.heap.size + 1, 3, none⟩) (by first | (simp; omega) | simp)]
    simp [go_sem]
  have q4 : w2.cell? ⟨w.heap.size + 1, 4, none⟩ = some (.slice none 0 0) := by
    rw [D2.out.cell (p := ⟨w.heap.size + 1, 4, none⟩) (by first | (simp; omega) | simp), cell_far _ _ _ _ (by simp)]
    rw [D1.out.cell (p := ⟨w.heap.size + 1, 4, none⟩) (by first | (simp; omega) | simp)]
    simp [go_sem]
  have q5 : w2.cell? ⟨w.heap.size + 1, 5, none⟩ = some (.slice none 0 0) := by
    rw [D2.out.cell (p := ⟨w.heap.size + 1, 5, none⟩) (by first | (simp; omega) | simp), cell_far _ _ _ _ (by simp)]
    rw [D1.out.cell (p := ⟨w.heap.size + 1, 5, none⟩) (by first | (simp; omega) | simp)]
    simp [go_sem]
  go_wp2
  exact bodyPost_ret (v := .agg #[.string x.name, .int .i64 x.kind, .int .i64 x.code, .string x.text, .slice (some ⟨g0, 0, none⟩) x.actN x.actN, .slice (some ⟨g1, 0, none⟩) x.linksN x.linksN]) (by simp [results, Tryd.results57, go_sem, q0, q1, q2, q3, q4, q5]) rfl ⟨g0, g1, rfl, ((((((((R0.out.setOther _ (by first | (simp; omega) | simp) _).below D2.out (Nat.le_refl _)).setOther _ (by first | (simp; omega) | simp) _).setOther _ (by first | (simp; omega) | simp) _).setOther _ (by first | (simp; omega) | simp) _).setOther _ (by first | (simp; omega) | simp) _).setOther _ (by first | (simp; omega) | simp) _).setOther _ (by first | (simp; omega) | simp) _).setOther _ (by first | (simp; omega) | simp) _, by omega, (((((((R1.out).setOther _ (by first | (simp; omega) | simp) _).setOther _ (by first | (simp; omega) | simp) _).setOther _ (by first | (simp; omega) | simp) _).setOther _ (by first | (simp; omega) | simp) _).setOther _ (by first | (simp; omega) | simp) _).setOther _ (by first | (simp; omega) | simp) _).setOther _ (by first | (simp; omega) | simp) _, by omega, (((((((B2.out).setCell (by first | (simp; omega) | simp) _).setCell (by first | (simp; omega) | simp) _).setCell (by first | (simp; omega) | simp) _).setCell (by first | (simp; omega) | simp) _).setCell (by first | (simp; omega) | simp) _).setCell (by first | (simp; omega) | simp) _).setCell (by first | (simp; omega) | simp) _⟩

theorem infoDeed : (Tryd.prog.info? 59).map (fun i => (i.zero, i.size, i.bytes)) = some (some (.agg #[.string ⟨#[]⟩, .int .i64 0, .int .i64 0, .string ⟨#[]⟩, .slice none 0 0, .slice none 0 0]), 6, 96) := by kernel_rfl
def zerosDeed (n : Nat) : Array Value := madeCells (Value.agg #[.string ⟨#[]⟩, .int .i64 0, .int .i64 0, .string ⟨#[]⟩, .slice none 0 0, .slice none 0 0]).cells (n * 6)
theorem mkDeed (n : Nat) (hn : n ≤ 1048576) (w : World) : (Instr.makeSlice 28 (.int .i64 (n : Int)) (.int .i64 (n : Int))).run Tryd.prog w = .ok (.slice (some ⟨w.heap.size, 0, none⟩) n n) (w.alloc (.cells (zerosDeed n) 59)) := by
  obtain ⟨i, hi, hz⟩ := Option.map_eq_some_iff.1 infoDeed
  simp only [Prod.mk.injEq] at hz
  obtain ⟨h1, h2, h3⟩ := hz
  have h := run_make (P := Tryd.prog) w 28 59 i _ Tryd.underlying28 hi h1 .i64 .i64 n n (by omega) (Int.le_refl _) (by rw [h3]; omega) (by omega)
  rw [h2] at h
  simpa [zerosDeed] using h

/-- Block g is a row of n elements' cells; the first k are those of f, their slices rows of blocks behind g. -/
def OwnDeed (w : World) (g n k : Nat) (f : Nat → Deed) : Prop :=
  ∃ (F : Nat → Value) (G0 G1 : Nat → Nat), w.rowIs g 59 (n * 6) F ∧ ∀ i, i < k → F (i * 6) = .string (f i).name ∧ F (i * 6 + 1) = .int .i64 (f i).kind ∧ F (i * 6 + 2) = .int .i64 (f i).code ∧ F (i * 6 + 3) = .string (f i).text ∧ (F (i * 6 + 4) = .slice (some ⟨G0 i, 0, none⟩) (f i).actN (f i).actN ∧ RowIns w (G0 i) 0 (f i).actN (f i).act ∧ g < G0 i) ∧ (F (i * 6 + 5) = .slice (some ⟨G1 i, 0, none⟩) (f i).linksN (f i).linksN ∧ RowLink w (G1 i) 0 (f i).linksN (f i).links ∧ g < G1 i)
theorem OwnDeed.lt {w : World} {g n k : Nat} {f : Nat → Deed} (h : OwnDeed w g n k f) : g < w.heap.size := by
  obtain ⟨F, G0, G1, hr, _⟩ := h
  exact hr.lt
theorem ownDeed_start (w : World) (n : Nat) (f : Nat → Deed) : OwnDeed (w.alloc (.cells (zerosDeed n) 59)) w.heap.size n 0 f := by
  have hz : (zerosDeed n).size = n * 6 := size_madeCells _ _
  have h := World.rowIs_alloc w (zerosDeed n) 59 (fun i => (zerosDeed n)[i]?.getD undef) (fun i hi => by rw [Array.getElem?_eq_getElem hi]; rfl)
  rw [hz] at h
  exact ⟨_, fun _ => 0, fun _ => 0, h, fun i hi => absurd hi (Nat.not_lt_zero _)⟩
theorem OwnDeed.step {w : World} {g n k g0 g1 : Nat} {f : Nat → Deed} (h : OwnDeed w g n k f) (R0 : RowIns w g0 0 (f k).actN (f k).act) (hg0 : g < g0) (R1 : RowLink w g1 0 (f k).linksN (f k).links) (hg1 : g < g1) :
    OwnDeed ((((((w.setCell ⟨g, k * 6, none⟩ (.string (f k).name)).setCell ⟨g, k * 6 + 1, none⟩ (.int .i64 (f k).kind)).setCell ⟨g, k * 6 + 2, none⟩ (.int .i64 (f k).code)).setCell ⟨g, k * 6 + 3, none⟩ (.string (f k).text)).setCell ⟨g, k * 6 + 4, none⟩ (.slice (some ⟨g0, 0, none⟩) (f k).actN (f k).actN)).setCell ⟨g, k * 6 + 5, none⟩ (.slice (some ⟨g1, 0, none⟩) (f k).linksN (f k).linksN)) g n (k + 1) f := by
  obtain ⟨F, G0, G1, hr, hF⟩ := h
  refine ⟨_, fun i => if i = k then g0 else G0 i, fun i => if i = k then g1 else G1 i, ((((((hr.set _ _).set _ _).set _ _).set _ _).set _ _).set _ _), fun i hi => ?_⟩
  by_cases e : i = k
  · subst e
    exact ⟨by simp, by simp, by simp, by simp, ⟨by simp, by dsimp only; rw [if_pos rfl]; exact ((((((R0).setOther _ (by first | (simp; omega) | simp) _).setOther _ (by first | (simp; omega) | simp) _).setOther _ (by first | (simp; omega) | simp) _).setOther _ (by first | (simp; omega) | simp) _).setOther _ (by first | (simp; omega) | simp) _).setOther _ (by first | (simp; omega) | simp) _, by dsimp only; rw [if_pos rfl]; exact hg0⟩, ⟨by simp, by dsimp only; rw [if_pos rfl]; exact ((((((R1).setOther _ (by first | (simp; omega) | simp) _).setOther _ (by first | (simp; omega) | simp) _).setOther _ (by first | (simp; omega) | simp) _).setOther _ (by first | (simp; omega) | simp) _).setOther _ (by first | (simp; omega) | simp) _).setOther _ (by first | (simp; omega) | simp) _, by dsimp only; rw [if_pos rfl]; exact hg1⟩⟩
  · obtain ⟨p0, p1, p2, p3, ⟨s0, r0, u0⟩, ⟨s1, r1, u1⟩⟩ := hF i (by omega)
    refine ⟨?_, ?_, ?_, ?_, ?_, ?_⟩
    · show (if _ then _ else if _ then _ else if _ then _ else if _ then _ else if _ then _ else if _ then _ else _) = _
      rw [if_neg (by omega), if_neg (by omega), if_neg (by omega), if_neg (by omega), if_neg (by omega), if_neg (by omega), p0]
    · show (if _ then _ else if _ then _ else if _ then _ else if _ then _ else if _ then _ else if _ then _ else _) = _
      rw [if_neg (by omega), if_neg (by omega), if_neg (by omega), if_neg (by omega), if_neg (by omega), if_neg (by omega), p1]
    · show (if _ then _ else if _ then _ else if _ then _ else if _ then _ else if _ then _ else if _ then _ else _) = _
      rw [if_neg (by omega), if_neg (by omega), if_neg (by omega), if_neg (by omega), if_neg (by omega), if_neg (by omega), p2]
    · show (if _ then _ else if _ then _ else if _ then _ else if _ then _ else if _ then _ else if _ then _ else _) = _
      rw [if_neg (by omega), if_neg (by omega), if_neg (by omega), if_neg (by omega), if_neg (by omega), if_neg (by omega), p3]
    · dsimp only
      rw [if_neg e]
      refine ⟨?_, ((((((r0).setOther _ (by first | (simp; omega) | simp) _).setOther _ (by first | (simp; omega) | simp) _).setOther _ (by first | (simp; omega) | simp) _).setOther _ (by first | (simp; omega) | simp) _).setOther _ (by first | (simp; omega) | simp) _).setOther _ (by first | (simp; omega) | simp) _, u0⟩
      show (if _ then _ else if _ then _ else if _ then _ else if _ then _ else if _ then _ else if _ then _ else _) = _
      rw [if_neg (by omega), if_neg (by omega), if_neg (by omega), if_neg (by omega), if_neg (by omega), if_neg (by omega), s0]
    · dsimp only
      rw [if_neg e]
      refine ⟨?_, ((((((r1).setOther _ (by first | (simp; omega) | simp) _).setOther _ (by first | (simp; omega) | simp) _).setOther _ (by first | (simp; omega) | simp) _).setOther _ (by first | (simp; omega) | simp) _).setOther _ (by first | (simp; omega) | simp) _).setOther _ (by first | (simp; omega) | simp) _, u1⟩
      show (if _ then _ else if _ then _ else if _ then _ else if _ then _ else if _ then _ else if _ then _ else _) = _
      rw [if_neg (by omega), if_neg (by omega), if_neg (by omega), if_neg (by omega), if_neg (by omega), if_neg (by omega), s1]
theorem OwnDeed.below {w w' : World} {g n k : Nat} {f : Nat → Deed} {B : Nat} (h : OwnDeed w g n k f) (hb : Below B w w') (hB : w.heap.size ≤ B) : OwnDeed w' g n k f := by
  have hl := h.lt
  obtain ⟨F, G0, G1, hr, hF⟩ := h
  refine ⟨F, G0, G1, hr.of_block (hb.block g (Nat.lt_of_lt_of_le hl hB)), fun i hi => ?_⟩
  obtain ⟨p0, p1, p2, p3, ⟨s0, r0, u0⟩, ⟨s1, r1, u1⟩⟩ := hF i hi
  exact ⟨p0, p1, p2, p3, ⟨s0, r0.below hb hB, u0⟩, ⟨s1, r1.below hb hB, u1⟩⟩
theorem OwnDeed.setOther {w : World} {g n k : Nat} {f : Nat → Deed} (h : OwnDeed w g n k f) (p : Addr) (hp : p.block < g) (v : Value) : OwnDeed (w.setCell p v) g n k f := by
  obtain ⟨F, G0, G1, hr, hF⟩ := h
  refine ⟨F, G0, G1, hr.setOther (by omega) v, fun i hi => ?_⟩
  obtain ⟨p0, p1, p2, p3, ⟨s0, r0, u0⟩, ⟨s1, r1, u1⟩⟩ := hF i hi
  exact ⟨p0, p1, p2, p3, ⟨s0, r0.setOther p (by omega) v, u0⟩, ⟨s1, r1.setOther p (by omega) v, u1⟩⟩
theorem OwnDeed.row {w : World} {g n : Nat} {f : Nat → Deed} (h : OwnDeed w g n n f) : RowDeed w g 0 n f := by
  obtain ⟨F, G0, G1, hr, hF⟩ := h
  refine ⟨hr.lt, fun i hi => ?_⟩
  obtain ⟨p0, p1, p2, p3, ⟨s0, r0, u0⟩, ⟨s1, r1, u1⟩⟩ := hF i hi
  refine ⟨?_, ?_, ?_, ?_, ?_, ?_⟩
  · rw [Nat.zero_add, hr.cell (by omega), p0]
  · rw [Nat.zero_add, hr.cell (by omega), p1]
  · rw [Nat.zero_add, hr.cell (by omega), p2]
  · rw [Nat.zero_add, hr.cell (by omega), p3]
  · exact ⟨_, _, by rw [Nat.zero_add, hr.cell (by omega), s0], r0.sl⟩
  · exact ⟨_, _, by rw [Nat.zero_add, hr.cell (by omega), s1], r1.sl⟩

set_option maxHeartbeats 2000000 in
theorem toDeedS_row (b off n cap : Nat) (f : Nat → Deed) (w : World) (hn : n ≤ 1048576) (hf : RowDeed w b off n f) (hm : ∀ i, i < n → FitsDeed (f i)) :
    Calls Tryd.prog 35 #[.slice (some ⟨b, off, none⟩) n cap] w fun e w' => ∃ g, e = .returned (.slice (some ⟨g, 0, none⟩) n n) ∧ OwnDeed w' g n n f ∧ w.heap.size ≤ g ∧ Below w.heap.size w w' := by
  have HF := hide hf
  have HM := hide hm
  clear hf hm
  have hmk := mkDeed n hn
  go_enter Tryd.func35, Tryd.ntmps35
  go_wp2
  clear hmk
  go_loopw [4] (fun i wr => ∃ k : Nat, k ≤ n ∧ i = .int .i64 k ∧ OwnDeed wr w.heap.size n k f ∧ Below w.heap.size w wr) (fun i _ => n - (intOf i).toNat)
  case atStart => exact ⟨0, by omega, rfl, ownDeed_start w n f, (Below.refl _ _).alloc (Nat.le_refl _) _⟩
  case round =>
    obtain ⟨k, hk, rfl, hO, hB⟩ := hrel
    have HO := hide hO
    have HB := hide hB
    have hsz : w.heap.size ≤ wr.heap.size := hB.size
    have hlo : w.heap.size < wr.heap.size := hO.lt
    clear hB
    by_cases hlt : k < n
    · obtain ⟨p0, p1, p2, p3, ⟨a0, cap0, s0, r0⟩, ⟨a1, cap1, s1, r1⟩⟩ := (HF.out.2 k hlt).below HB.out (Nat.le_refl _) HF.out.1
      have HR := hide (show SlIns wr a0 (f k).actN (f k).act ∧ SlLink wr a1 (f k).linksN (f k).links from ⟨r0, r1⟩)
      clear hO r0 r1
      go_wp2_with fail
      refine (toDeed_any (f k) a0 cap0 a1 cap1 _ (HM.out k hlt) HR.out.1 HR.out.2).mono ?_
      rintro e w1 ⟨g0, g1, rfl, hR0, hg0, hR1, hg1, hB1⟩
      have HO1 := hide (HO.out.below hB1 (Nat.le_refl _))
      have R0 := hide hR0
      have R1 := hide hR1
      have HB1 := hide (HB.out.trans (hB1.mono hsz))
      clear hB1 hR0 hR1
      obtain ⟨F, G0, G1, hr, _⟩ := HO1.out
      have d0 := hr.cell (i := k * 6) (by omega)
      have z0 := hr.frozen (k * 6)
      have d1 := hr.cell (i := k * 6 + 1) (by omega)
      have z1 := hr.frozen (k * 6 + 1)
      have d2 := hr.cell (i := k * 6 + 2) (by omega)
      have z2 := hr.frozen (k * 6 + 2)
      have d3 := hr.cell (i := k * 6 + 3) (by omega)
      have z3 := hr.frozen (k * 6 + 3)
      have d4 := hr.cell (i := k * 6 + 4) (by omega)
      have z4 := hr.frozen (k * 6 + 4)
      have d5 := hr.cell (i := k * 6 + 5) (by omega)
      have z5 := hr.frozen (k * 6 + 5)
      clear hr p0 p1 p2 p3 s0 s1
      go_wp2
      exact ⟨⟨k + 1, by omega, by go_num, HO1.out.step R0.out (by omega) R1.out (by omega), ((((((HB1.out).setCell (Nat.le_refl _) _).setCell (Nat.le_refl _) _).setCell (Nat.le_refl _) _).setCell (Nat.le_refl _) _).setCell (Nat.le_refl _) _).setCell (Nat.le_refl _) _⟩, by simp [intOf]; omega⟩
    · have e : k = n := by omega
      subst e
      clear hO
      go_wp2
      go_ret
      exact ⟨_, rfl, HO.out, Nat.le_refl _, HB.out⟩

set_option maxHeartbeats 1000000 in
theorem toDeedS_nil (a : Option Addr) (cap : Nat) (f : Nat → Deed) (w : World) :
    Calls Tryd.prog 35 #[.slice a 0 cap] w fun e w' => ∃ g, e = .returned (.slice (some ⟨g, 0, none⟩) 0 0) ∧ OwnDeed w' g 0 0 f ∧ w.heap.size ≤ g ∧ Below w.heap.size w w' := by
  have hmk : ∀ w : World, (Instr.makeSlice 28 (.int .i64 0) (.int .i64 0)).run Tryd.prog w = .ok (.slice (some ⟨w.heap.size, 0, none⟩) 0 0) (w.alloc (.cells (zerosDeed 0) 59)) := fun w => mkDeed 0 (by omega) w
  go_enter Tryd.func35, Tryd.ntmps35
  go_wp2
  clear hmk
  go_loop [4] (fun i => i = .int .i64 0) (fun _ => 0)
  case atStart => rfl
  case round =>
    subst hrel
    go_wp2
    go_ret
    exact ⟨_, rfl, ownDeed_start w 0 f, Nat.le_refl _, (Below.refl _ _).alloc (Nat.le_refl _) _⟩

theorem toDeedS_any (a : Option Addr) (n cap : Nat) (f : Nat → Deed) (w : World) (hn : n ≤ 1048576) (hv : SlDeed w a n f) (hm : ∀ i, i < n → FitsDeed (f i)) :
    Calls Tryd.prog 35 #[.slice a n cap] w fun e w' => ∃ g, e = .returned (.slice (some ⟨g, 0, none⟩) n n) ∧ OwnDeed w' g n n f ∧ w.heap.size ≤ g ∧ Below w.heap.size w w' := by
  rcases hv with rfl | ⟨b, off, rfl, hr⟩
  · exact toDeedS_nil a cap f w
  · exact toDeedS_row b off n cap f w hn hr hm

set_option maxHeartbeats 2000000 in
theorem eqDeed_any (x : Deed) (a0 : Option Addr) (cap0 : Nat) (a1 : Option Addr) (cap1 : Nat) (b0 : Option Addr) (dap0 : Nat) (b1 : Option Addr) (dap1 : Nat) (w : World) (hfit : FitsDeed x) (hv0 : SlIns w a0 x.actN x.act) (hv1 : SlLink w a1 x.linksN x.links) (hu0 : SlIns w b0 x.actN x.act) (hu1 : SlLink w b1 x.linksN x.links) :
    Calls Tryd.prog 60 #[.agg #[.string x.name, .int .i64 x.kind, .int .i64 x.code, .string x.text, .slice a0 x.actN cap0, .slice a1 x.linksN cap1], .agg #[.string x.name, .int .i64 x.kind, .int .i64 x.code, .string x.text, .slice b0 x.actN dap0, .slice b1 x.linksN dap1]] w fun e w' => e = .returned (.bool true) ∧ Below w.heap.size w w' := by
  have V0 := hide hv0
  have V1 := hide hv1
  clear hv0 hv1
  have U0 := hide hu0
  have U1 := hide hu1
  clear hu0 hu1
  have hfit := hide hfit
  have B0 : Hid (Below w.heap.size w ((w.alloc (.cells #[.string x.name, .int .i64 x.kind, .int .i64 x.code, .string x.text, .slice a0 x.actN cap0, .slice a1 x.linksN cap1] 59)).alloc (.cells #[.string x.name, .int .i64 x.kind, .int .i64 x.code, .string x.text, .slice b0 x.actN dap0, .slice b1 x.linksN dap1] 59))) := ((Below.refl _ _).alloc (Nat.le_refl _) _).alloc (by simp) _
  go_enter Tryd.func60, Tryd.ntmps60
  go_wp2_with fail
  refine (eqProgram_any a0 b0 cap0 dap0 x.actN x.act _ hfit.out.1 (V0.out.below B0.out (Nat.le_refl _)) (U0.out.below B0.out (Nat.le_refl _))).mono ?_
  rintro e w1 ⟨rfl, hB1⟩
  have bc1 := (bcell hB1).1
  have B1 := hide (B0.out.trans (hB1.mono B0.out.size))
  have hs1 : w.heap.size + 1 < w1.heap.size := by have := hB1.size; first | omega | (simp at this; omega)
  have ht1 : w.heap.size < w1.heap.size := by omega
  clear hB1
  go_wp2_with fail
  refine (eqLinkS_any a1 b1 cap1 dap1 x.linksN x.links _ hfit.out.2 (V1.out.below B1.out (Nat.le_refl _)) (U1.out.below B1.out (Nat.le_refl _))).mono ?_
  rintro e w2 ⟨rfl, hB2⟩
  have bc2 := (bcell hB2).1
  have B2 := hide (B1.out.trans (hB2.mono B1.out.size))
  have hs2 : w.heap.size + 1 < w2.heap.size := by have := hB2.size; first | omega | (simp at this; omega)
  have ht2 : w.heap.size < w2.heap.size := by omega
  clear hB2
  go_wp2
  go_ret
  exact ⟨rfl, B2.out⟩

set_option maxHeartbeats 2000000 in
theorem eqDeedS_row (b off cap b2 off2 cap2 n : Nat) (f : Nat → Deed) (w : World) (hn : n ≤ 1048576) (hf : RowDeed w b off n f) (hf2 : RowDeed w b2 off2 n f) (hm : ∀ i, i < n → FitsDeed (f i)) :
    Calls Tryd.prog 40 #[.slice (some ⟨b, off, none⟩) n cap, .slice (some ⟨b2, off2, none⟩) n cap2] w fun e w' => e = .returned (.bool true) ∧ Below w.heap.size w w' := by
  have HF := hide hf
  have HF2 := hide hf2
  have HM := hide hm
  clear hf hf2 hm
  go_enter Tryd.func40, Tryd.ntmps40
  go_wp2
  go_loopw [5] (fun i wr => ∃ k : Nat, k ≤ n ∧ i = .int .i64 k ∧ Below w.heap.size w wr) (fun i _ => n - (intOf i).toNat)
  case atStart => exact ⟨0, by omega, rfl, Below.refl _ _⟩
  case round =>
    obtain ⟨k, hk, rfl, hB⟩ := hrel
    have HB := hide hB
    have hsz : w.heap.size ≤ wr.heap.size := hB.size
    clear hB
    by_cases hlt : k < n
    · obtain ⟨p0, p1, p2, p3, ⟨a0, cap0, s0, r0⟩, ⟨a1, cap1, s1, r1⟩⟩ := (HF.out.2 k hlt).below HB.out (Nat.le_refl _) HF.out.1
      obtain ⟨q0, q1, q2, q3, ⟨b0, dap0, t0, v0⟩, ⟨b1, dap1, t1, v1⟩⟩ := (HF2.out.2 k hlt).below HB.out (Nat.le_refl _) HF2.out.1
      have HR := hide (show SlIns wr a0 (f k).actN (f k).act ∧ SlLink wr a1 (f k).linksN (f k).links from ⟨r0, r1⟩)
      have HR2 := hide (show SlIns wr b0 (f k).actN (f k).act ∧ SlLink wr b1 (f k).linksN (f k).links from ⟨v0, v1⟩)
      clear r0 r1 v0 v1
      go_wp2_with fail
      go_region_with (go_at_call 60; refine (eqDeed_any (f k) a0 cap0 a1 cap1 b0 dap0 b1 dap1 _ (HM.out k hlt) ?_ ?_ ?_ ?_).mono ?_; exact HR.out.1; exact HR.out.2; exact HR2.out.1; exact HR2.out.2; rintro e w' ⟨rfl, hB'⟩)
      all_goals
        go_wp2
        exact ⟨⟨k + 1, by omega, by go_num, Below.trans (by repeat (first | exact HB.out | apply Below.drew)) (hB'.mono hsz)⟩, by simp [intOf]; omega⟩
    · have e : k = n := by omega
      subst e
      go_wp2
      go_ret
      exact ⟨rfl, HB.out⟩

set_option maxHeartbeats 1000000 in
theorem eqDeedS_nil (a a2 : Option Addr) (cap cap2 : Nat) (w : World) :
    Calls Tryd.prog 40 #[.slice a 0 cap, .slice a2 0 cap2] w fun e w' => e = .returned (.bool true) ∧ w' = w := by
  go_enter Tryd.func40, Tryd.ntmps40
  go_wp2
  go_loop [5] (fun i => i = .int .i64 0) (fun _ => 0)
  case atStart => rfl
  case round =>
    subst hrel
    go_wp2
    go_ret
    exact ⟨rfl, rfl⟩

theorem eqDeedS_any (a a2 : Option Addr) (cap cap2 n : Nat) (f : Nat → Deed) (w : World) (hn : n ≤ 1048576) (h : SlDeed w a n f) (h2 : SlDeed w a2 n f) (hm : ∀ i, i < n → FitsDeed (f i)) :
    Calls Tryd.prog 40 #[.slice a n cap, .slice a2 n cap2] w fun e w' => e = .returned (.bool true) ∧ Below w.heap.size w w' := by
  by_cases hz : n = 0
  · subst hz
    exact (eqDeedS_nil a a2 cap cap2 w).mono fun _ _ ⟨a, b⟩ => ⟨a, by rw [b]; exact Below.refl _ _⟩
  · rcases h with h | ⟨b, off, rfl, hr⟩
    · exact absurd h hz
    · rcases h2 with h | ⟨b2, off2, rfl, hr2⟩
      · exact absurd h hz
      · exact eqDeedS_row b off cap b2 off2 cap2 n f w hn hr hr2 hm

end Go.Proofs.YtggchgpphhhleaaDoor.Vp

/-
  Data: Account, a struct of one slice of Deed. Written by tools/wrap.py.
-/
namespace Go.Proofs.YtggchgpphhhleaaDoor.Vp
open Go.RowKit

set_option maxHeartbeats 400000 in
theorem szAccount_any (a : Option Addr) (n cap : Nat) (f : Nat → Deed) (left : Int) (w : World) (h0 : 0 ≤ left) (h1 : left ≤ 1048576) (hn : (n : Int) ≤ 9223372036854775807) (hv : SlDeed w a n f) (hs : ∀ i, i < n → SizedDeed (f i)) :
    Calls Tryd.prog 8 #[.agg #[.slice a n cap], .int .i64 left] w fun e w' => ∃ r : Int, e = .returned (.int .i64 r) ∧ -1 ≤ r ∧ r ≤ left ∧ (0 ≤ r → (n : Int) ≤ left ∧ ∀ i, i < n → FitsDeed (f i)) ∧ Below w.heap.size w w' := by
  have HV := hide hv
  have HS := hide hs
  clear hv hs
  go_enter Tryd.func8, Tryd.ntmps8
  go_wp2_with fail
  refine (szDeedS_any a n cap f left _ h0 h1 hn (HV.out.below ((Below.refl _ _).alloc (Nat.le_refl _) _) (Nat.le_refl _)) HS.out).mono ?_
  rintro e w' ⟨r, rfl, hr1, hr2, hr3, hB⟩
  go_wp2
  all_goals go_ret
  · exact ⟨-1, rfl, by omega, by omega, fun _ => by omega, ((Below.refl _ _).alloc (Nat.le_refl _) _).trans (hB.mono (by simp))⟩
  · exact ⟨r, rfl, hr1, hr2, hr3, ((Below.refl _ _).alloc (Nat.le_refl _) _).trans (hB.mono (by simp))⟩

set_option maxHeartbeats 1000000 in
theorem toAccount_any (a : Option Addr) (n cap : Nat) (f : Nat → Deed) (w : World) (hn : n ≤ 1048576) (hv : SlDeed w a n f) (hm : ∀ i, i < n → FitsDeed (f i)) :
    Calls Tryd.prog 10 #[.agg #[.slice a n cap]] w fun e w' => ∃ g, e = .returned (.agg #[.slice (some ⟨g, 0, none⟩) n n]) ∧ OwnDeed w' g n n f ∧ w.heap.size ≤ g ∧ Below w.heap.size w w' := by
  have HV := hide hv
  clear hv
  go_enter Tryd.func10, Tryd.ntmps10
  go_wp2_with fail
  refine (toDeedS_any a n cap f _ hn (HV.out.below ((((Below.refl _ _).alloc (Nat.le_refl _) _).alloc (by simp) _).alloc (by simp; omega) _) (Nat.le_refl _)) hm).mono ?_
  rintro e w' ⟨g, rfl, hv', hg, hB⟩
  have HV' := hide hv'
  have HB := hide hB
  obtain ⟨hc, hz⟩ := bcell hB
  clear hv' hB
  simp at hg
  go_wp2
  refine bodyPost_ret (v := .agg #[.slice (some ⟨g, 0, none⟩) n n]) (by simp [results, Tryd.results10, go_sem, hc]) rfl ⟨g, rfl, (HV'.out.setOther _ (by simp; omega) _).setOther _ (by simp; omega) _, by omega, ?_⟩
  exact ((((((Below.refl _ _).alloc (Nat.le_refl _) _).alloc (by simp) _).alloc (by simp; omega) _).trans (HB.out.mono (by simp; omega))).setCell (by simp; omega) _).setCell (by simp) _

set_option maxHeartbeats 1000000 in
theorem eqAccount_any (a a2 : Option Addr) (cap cap2 n : Nat) (f : Nat → Deed) (w : World) (hn : n ≤ 1048576) (h : SlDeed w a n f) (h2 : SlDeed w a2 n f) (hm : ∀ i, i < n → FitsDeed (f i)) :
    Calls Tryd.prog 12 #[.agg #[.slice a n cap], .agg #[.slice a2 n cap2]] w fun e w' => e = .returned (.bool true) ∧ Below w.heap.size w w' := by
  have HF := hide h
  have HF2 := hide h2
  clear h h2
  go_enter Tryd.func12, Tryd.ntmps12
  go_wp2_with fail
  have hA := hide (((Below.refl w.heap.size w).alloc (Nat.le_refl _) (.cells #[.slice a n cap] 30)).alloc (by simp) (.cells #[.slice a2 n cap2] 30))
  refine (eqDeedS_any a a2 cap cap2 n f _ hn (HF.out.below hA.out (Nat.le_refl _)) (HF2.out.below hA.out (Nat.le_refl _)) hm).mono ?_
  rintro e w' ⟨rfl, hB⟩
  go_wp2
  go_ret
  exact ⟨rfl, hA.out.trans (hB.mono (by simp; omega))⟩

end Go.Proofs.YtggchgpphhhleaaDoor.Vp

/-
  The copies of programs once more, with what they own. Written by tools/own.py.
-/
namespace Go.Proofs.YtggchgpphhhleaaDoor.Vp
open Go.RowKit

theorem cells_of_row {w : World} {b n : Nat} {t : TypeId} {F : Nat → Value} (h : w.rowIs b t n F) : Cells w b 0 n F :=
  ⟨h.lt, fun j hj => by rw [Nat.zero_add]; exact ⟨h.cell hj, h.frozen j⟩⟩
theorem OwnIns.lt {w : World} {g n k : Nat} {f : Nat → Ins} (h : OwnIns w g n k f) : g < w.heap.size := by
  obtain ⟨F, hr, _⟩ := h
  exact hr.lt
theorem OwnIns.setOther {w : World} {g n k : Nat} {f : Nat → Ins} (h : OwnIns w g n k f) (p : Addr) (hp : p.block ≠ g) (v : Value) : OwnIns (w.setCell p v) g n k f := by
  obtain ⟨F, hr, hF⟩ := h
  exact ⟨F, hr.setOther (fun e => hp e.symm) v, hF⟩
theorem OwnIns.kept {w w' : World} {g n k : Nat} {f : Nat → Ins} {B : Nat} (h : OwnIns w g n k f) (hb : Below B w w') (hB : w.heap.size ≤ B) : OwnIns w' g n k f := h.below hb (Nat.lt_of_lt_of_le h.lt hB)
theorem OwnIns.cells {w : World} {g n : Nat} {f : Nat → Ins} (h : OwnIns w g n n f) : ∃ F, Cells w g 0 (n * 3) F := by
  obtain ⟨F, hr, _⟩ := h
  exact ⟨F, cells_of_row hr⟩

set_option maxHeartbeats 1000000 in
theorem toInsS_rowO (b off n cap : Nat) (f : Nat → Ins) (w : World) (hn : n ≤ 1048576) (hb : b < w.heap.size) (hf : ∀ i, i < n → AtIns w b off i (f i)) :
    Calls Tryd.prog 86 #[.slice (some ⟨b, off, none⟩) n cap] w fun e w' => ∃ g, e = .returned (.slice (some ⟨g, 0, none⟩) n n) ∧ OwnIns w' g n n f ∧ w.heap.size ≤ g ∧ Below w.heap.size w w' := by
  have HF := hide hf
  clear hf
  have hmk := mkIns n hn
  go_enter Tryd.func86, Tryd.ntmps86
  go_wp2
  clear hmk
  go_loopw [4] (fun i wr => ∃ k : Nat, k ≤ n ∧ i = .int .i64 k ∧ OwnIns wr w.heap.size n k f ∧ Below w.heap.size w wr) (fun i _ => n - (intOf i).toNat)
  case atStart => exact ⟨0, by omega, rfl, ownIns_start w n f, (Below.refl _ _).alloc (Nat.le_refl _) _⟩
  case round =>
    obtain ⟨k, hk, rfl, hO, hB⟩ := hrel
    have HO := hide hO
    by_cases hlt : k < n
    · obtain ⟨c0, c1, c2⟩ := (HF.out k hlt).below hB hb
      clear hO
      go_wp2_with fail
      refine (toIns_any _ _ _ _).mono ?_
      rintro e w1 ⟨rfl, hB1⟩
      have HO1 : Hid (OwnIns w1 w.heap.size n k f) := HO.out.below hB1 (by obtain ⟨F, hr, _⟩ := HO.out; exact hr.lt)
      obtain ⟨F, hr, _⟩ := HO1.out
      have d0 := hr.cell (i := k * 3) (by omega)
      have z0 := hr.frozen (k * 3)
      have d1 := hr.cell (i := k * 3 + 1) (by omega)
      have z1 := hr.frozen (k * 3 + 1)
      have d2 := hr.cell (i := k * 3 + 2) (by omega)
      have z2 := hr.frozen (k * 3 + 2)
      clear hr c0 c1 c2
      go_wp2
      exact ⟨⟨k + 1, by omega, by go_num, HO1.out.step, (((hB.trans (hB1.mono hB.size)).setCell (Nat.le_refl _) _).setCell (Nat.le_refl _) _).setCell (Nat.le_refl _) _⟩, by simp [intOf]; omega⟩
    · have e : k = n := by omega
      subst e
      clear hO
      go_wp2
      go_ret
      exact ⟨_, rfl, HO.out, Nat.le_refl _, hB⟩

set_option maxHeartbeats 1000000 in
theorem toInsS_nilO (a : Option Addr) (cap : Nat) (f : Nat → Ins) (w : World) :
    Calls Tryd.prog 86 #[.slice a 0 cap] w fun e w' => ∃ g, e = .returned (.slice (some ⟨g, 0, none⟩) 0 0) ∧ OwnIns w' g 0 0 f ∧ w.heap.size ≤ g ∧ Below w.heap.size w w' := by
  have hmk : ∀ w : World, (Instr.makeSlice 54 (.int .i64 0) (.int .i64 0)).run Tryd.prog w = .ok (.slice (some ⟨w.heap.size, 0, none⟩) 0 0) (w.alloc (.cells (zerosIns 0) 122)) := fun w => mkIns 0 (by omega) w
  go_enter Tryd.func86, Tryd.ntmps86
  go_wp2
  clear hmk
  go_loop [4] (fun i => i = .int .i64 0) (fun _ => 0)
  case atStart => rfl
  case round =>
    subst hrel
    go_wp2
    go_ret
    exact ⟨_, rfl, ownIns_start w 0 f, Nat.le_refl _, (Below.refl _ _).alloc (Nat.le_refl _) _⟩

theorem toInsS_anyO (a : Option Addr) (n cap : Nat) (f : Nat → Ins) (w : World) (hn : n ≤ 1048576) (hv : SlIns w a n f) :
    Calls Tryd.prog 86 #[.slice a n cap] w fun e w' => ∃ g, e = .returned (.slice (some ⟨g, 0, none⟩) n n) ∧ OwnIns w' g n n f ∧ w.heap.size ≤ g ∧ Below w.heap.size w w' := by
  rcases hv with rfl | ⟨b, off, rfl, hl, hc⟩
  · exact toInsS_nilO a cap f w
  · exact toInsS_rowO b off n cap f w hn hl hc

set_option maxHeartbeats 1000000 in
theorem toProgram_anyO (a : Option Addr) (n cap : Nat) (f : Nat → Ins) (w : World) (hn : n ≤ 1048576) (hv : SlIns w a n f) :
    Calls Tryd.prog 70 #[.agg #[.slice a n cap]] w fun e w' => ∃ g, e = .returned (.agg #[.slice (some ⟨g, 0, none⟩) n n]) ∧ OwnIns w' g n n f ∧ w.heap.size ≤ g ∧ Below w.heap.size w w' := by
  have HV := hide hv
  clear hv
  go_enter Tryd.func70, Tryd.ntmps70
  go_wp2_with fail
  refine (toInsS_anyO a n cap f _ hn (HV.out.below ((((Below.refl _ _).alloc (Nat.le_refl _) _).alloc (by simp) _).alloc (by simp; omega) _) (Nat.le_refl _))).mono ?_
  rintro e w' ⟨g, rfl, hv', hg, hB⟩
  have HV' := hide hv'
  have HB := hide hB
  obtain ⟨hc, hz⟩ := bcell hB
  clear hv' hB
  simp at hg
  go_wp2
  refine bodyPost_ret (v := .agg #[.slice (some ⟨g, 0, none⟩) n n]) (by simp [results, Tryd.results70, go_sem, hc]) rfl ⟨g, rfl, (HV'.out.setOther _ (by simp; omega) _).setOther _ (by simp; omega) _, by omega, ?_⟩
  exact ((((((Below.refl _ _).alloc (Nat.le_refl _) _).alloc (by simp) _).alloc (by simp; omega) _).trans (HB.out.mono (by simp; omega))).setCell (by simp; omega) _).setCell (by simp) _

end Go.Proofs.YtggchgpphhhleaaDoor.Vp

/-
  The copies of links, deeds, accounts once more, with what they own. Written by tools/own.py.
-/
namespace Go.Proofs.YtggchgpphhhleaaDoor.Vp
open Go.RowKit

theorem OwnLink.lt {w : World} {g n k : Nat} {f : Nat → Link} (h : OwnLink w g n k f) : g < w.heap.size := by
  obtain ⟨F, hr, _⟩ := h
  exact hr.lt
theorem OwnLink.setOther {w : World} {g n k : Nat} {f : Nat → Link} (h : OwnLink w g n k f) (p : Addr) (hp : p.block ≠ g) (v : Value) : OwnLink (w.setCell p v) g n k f := by
  obtain ⟨F, hr, hF⟩ := h
  exact ⟨F, hr.setOther (fun e => hp e.symm) v, hF⟩
theorem OwnLink.kept {w w' : World} {g n k : Nat} {f : Nat → Link} {B : Nat} (h : OwnLink w g n k f) (hb : Below B w w') (hB : w.heap.size ≤ B) : OwnLink w' g n k f := h.below hb (Nat.lt_of_lt_of_le h.lt hB)
theorem OwnLink.cells {w : World} {g n : Nat} {f : Nat → Link} (h : OwnLink w g n n f) : ∃ F, Cells w g 0 (n * 4) F := by
  obtain ⟨F, hr, _⟩ := h
  exact ⟨F, cells_of_row hr⟩
theorem rows_apart {w : World} {g n m : Nat} {s t : TypeId} {F G : Nat → Value} (h1 : w.rowIs g s n F) (h2 : w.rowIs g t m G) (hne : s ≠ t) : False := by
  obtain ⟨cs, hc, _⟩ := h1
  obtain ⟨ds, hd, _⟩ := h2
  rw [hc] at hd
  simp at hd
  exact hne hd.2
theorem ins_link {w : World} {g h n m k j : Nat} {f : Nat → Ins} {l : Nat → Link} (h1 : OwnIns w g n k f) (h2 : OwnLink w h m j l) : g ≠ h := by
  rintro rfl
  obtain ⟨F, hr, _⟩ := h1
  obtain ⟨G, hs, _⟩ := h2
  exact rows_apart hr hs (by decide)

set_option maxHeartbeats 1000000 in
theorem toLinkS_rowO (b off n cap : Nat) (f : Nat → Link) (w : World) (hn : n ≤ 1048576) (hb : b < w.heap.size) (hf : ∀ i, i < n → AtLink w b off i (f i)) :
    Calls Tryd.prog 71 #[.slice (some ⟨b, off, none⟩) n cap] w fun e w' => ∃ g, e = .returned (.slice (some ⟨g, 0, none⟩) n n) ∧ OwnLink w' g n n f ∧ w.heap.size ≤ g ∧ Below w.heap.size w w' := by
  have HF := hide hf
  clear hf
  have hmk := mkLink n hn
  go_enter Tryd.func71, Tryd.ntmps71
  go_wp2
  clear hmk
  go_loopw [4] (fun i wr => ∃ k : Nat, k ≤ n ∧ i = .int .i64 k ∧ OwnLink wr w.heap.size n k f ∧ Below w.heap.size w wr) (fun i _ => n - (intOf i).toNat)
  case atStart => exact ⟨0, by omega, rfl, ownLink_start w n f, (Below.refl _ _).alloc (Nat.le_refl _) _⟩
  case round =>
    obtain ⟨k, hk, rfl, hO, hB⟩ := hrel
    have HO := hide hO
    by_cases hlt : k < n
    · obtain ⟨c0, c1, c2, c3⟩ := (HF.out k hlt).below hB hb
      clear hO
      go_wp2_with fail
      refine (toLink_any _ _ _ _ _).mono ?_
      rintro e w1 ⟨rfl, hB1⟩
      have HO1 : Hid (OwnLink w1 w.heap.size n k f) := HO.out.below hB1 (by obtain ⟨F, hr, _⟩ := HO.out; exact hr.lt)
      obtain ⟨F, hr, _⟩ := HO1.out
      have d0 := hr.cell (i := k * 4) (by omega)
      have z0 := hr.frozen (k * 4)
      have d1 := hr.cell (i := k * 4 + 1) (by omega)
      have z1 := hr.frozen (k * 4 + 1)
      have d2 := hr.cell (i := k * 4 + 2) (by omega)
      have z2 := hr.frozen (k * 4 + 2)
      have d3 := hr.cell (i := k * 4 + 3) (by omega)
      have z3 := hr.frozen (k * 4 + 3)
      clear hr c0 c1 c2 c3
      go_wp2
      exact ⟨⟨k + 1, by omega, by go_num, HO1.out.step, ((((hB.trans (hB1.mono hB.size)).setCell (Nat.le_refl _) _).setCell (Nat.le_refl _) _).setCell (Nat.le_refl _) _).setCell (Nat.le_refl _) _⟩, by simp [intOf]; omega⟩
    · have e : k = n := by omega
      subst e
      clear hO
      go_wp2
      go_ret
      exact ⟨_, rfl, HO.out, Nat.le_refl _, hB⟩

set_option maxHeartbeats 1000000 in
theorem toLinkS_nilO (a : Option Addr) (cap : Nat) (f : Nat → Link) (w : World) :
    Calls Tryd.prog 71 #[.slice a 0 cap] w fun e w' => ∃ g, e = .returned (.slice (some ⟨g, 0, none⟩) 0 0) ∧ OwnLink w' g 0 0 f ∧ w.heap.size ≤ g ∧ Below w.heap.size w w' := by
  have hmk : ∀ w : World, (Instr.makeSlice 57 (.int .i64 0) (.int .i64 0)).run Tryd.prog w = .ok (.slice (some ⟨w.heap.size, 0, none⟩) 0 0) (w.alloc (.cells (zerosLink 0) 72)) := fun w => mkLink 0 (by omega) w
  go_enter Tryd.func71, Tryd.ntmps71
  go_wp2
  clear hmk
  go_loop [4] (fun i => i = .int .i64 0) (fun _ => 0)
  case atStart => rfl
  case round =>
    subst hrel
    go_wp2
    go_ret
    exact ⟨_, rfl, ownLink_start w 0 f, Nat.le_refl _, (Below.refl _ _).alloc (Nat.le_refl _) _⟩

theorem toLinkS_anyO (a : Option Addr) (n cap : Nat) (f : Nat → Link) (w : World) (hn : n ≤ 1048576) (hv : SlLink w a n f) :
    Calls Tryd.prog 71 #[.slice a n cap] w fun e w' => ∃ g, e = .returned (.slice (some ⟨g, 0, none⟩) n n) ∧ OwnLink w' g n n f ∧ w.heap.size ≤ g ∧ Below w.heap.size w w' := by
  rcases hv with rfl | ⟨b, off, rfl, hl, hc⟩
  · exact toLinkS_nilO a cap f w
  · exact toLinkS_rowO b off n cap f w hn hl hc

set_option maxHeartbeats 2000000 in
theorem toDeed_anyO (x : Deed) (a0 : Option Addr) (cap0 : Nat) (a1 : Option Addr) (cap1 : Nat) (w : World) (hfit : FitsDeed x) (hv0 : SlIns w a0 x.actN x.act) (hv1 : SlLink w a1 x.linksN x.links) :
    Calls Tryd.prog 57 #[.agg #[.string x.name, .int .i64 x.kind, .int .i64 x.code, .string x.text, .slice a0 x.actN cap0, .slice a1 x.linksN cap1]] w fun e w' => ∃ g0 g1, e = .returned (.agg #[.string x.name, .int .i64 x.kind, .int .i64 x.code, .string x.text, .slice (some ⟨g0, 0, none⟩) x.actN x.actN, .slice (some ⟨g1, 0, none⟩) x.linksN x.linksN]) ∧ OwnIns w' g0 x.actN x.actN x.act ∧ w.heap.size ≤ g0 ∧ OwnLink w' g1 x.linksN x.linksN x.links ∧ w.heap.size ≤ g1 ∧ Below w.heap.size w w' := by
  have V0 := hide hv0
  have V1 := hide hv1
  clear hv0 hv1
  have hfit := hide hfit
  have A0 : Hid (Below w.heap.size w (((w.alloc (.cells #[.string x.name, .int .i64 x.kind, .int .i64 x.code, .string x.text, .slice a0 x.actN cap0, .slice a1 x.linksN cap1] 89)).alloc (.cells #[.string ⟨#[]⟩, .int .i64 0, .int .i64 0, .string ⟨#[]⟩, .slice none 0 0, .slice none 0 0] 59)).alloc (.cells #[.string x.name, .int .i64 x.kind, .int .i64 x.code, .string x.text, .slice none 0 0, .slice none 0 0] 59))) := (((Below.refl _ _).alloc (Nat.le_refl _) _).alloc (by simp) _).alloc (by first | (simp; omega) | simp) _
  go_enter Tryd.func57, Tryd.ntmps57
  go_wp2_with fail
  refine (toProgram_anyO a0 x.actN cap0 x.act _ hfit.out.1 (V0.out.below A0.out (Nat.le_refl _))).mono ?_
  rintro e w1 ⟨g0, rfl, hR0, hg0, hB1⟩
  have R0 := hide hR0
  obtain ⟨hc1, hz1⟩ := bcell hB1
  have B1 := hide (A0.out.trans (hB1.mono A0.out.size))
  have hs1 : w.heap.size + 1 + 1 < w1.heap.size := by have := hB1.size; simp at this; omega
  have hu1 : w.heap.size + 1 < w1.heap.size := by omega
  have ht1 : w.heap.size < w1.heap.size := by omega
  have D1 := hide hB1
  clear hR0 hB1
  simp at hg0
  go_wp2_with fail
  have A1 := hide (B1.out.setCell (p := ⟨w.heap.size + 1 + 1, 4, none⟩) (by first | (simp; omega) | simp) (.slice (some ⟨g0, 0, none⟩) x.actN x.actN))
  refine (toLinkS_anyO a1 x.linksN cap1 x.links _ hfit.out.2 (V1.out.below A1.out (Nat.le_refl _))).mono ?_
  rintro e w2 ⟨g1, rfl, hR1, hg1, hB2⟩
  have R1 := hide hR1
  obtain ⟨hc2, hz2⟩ := bcell hB2
  have B2 := hide (A1.out.trans (hB2.mono A1.out.size))
  have hs2 : w.heap.size + 1 + 1 < w2.heap.size := by have := hB2.size; simp at this; omega
  have hu2 : w.heap.size + 1 < w2.heap.size := by omega
  have ht2 : w.heap.size < w2.heap.size := by omega
  have D2 := hide hB2
  clear hR1 hB2
  simp at hg1
  have q0 : w2.cell? ⟨w.heap.size + 1, 0, none⟩ = some (.string ⟨#[]⟩) := by
    rw [D2.out.cell (p := ⟨w.heap.size + 1, 0, none⟩) (by first | (simp; omega) | simp), cell_far _ _ _ _ (by simp)]
    rw [D1.out.cell (p := ⟨w.heap.size + 1, 0, none⟩) (by first | (simp; omega) | simp)]
    simp [go_sem]
  have q1 : w2.cell? ⟨w.heap.size + 1, 1, none⟩ = some (.int .i64 0) := by
    rw [D2.out.cell (p := ⟨w.heap.size + 1, 1, none⟩) (by first | (simp; omega) | simp), cell_far _ _ _ _ (by simp)]
    rw [D1.out.cell (p := ⟨w.heap.size + 1, 1, none⟩) (by first | (simp; omega) | simp)]
    simp [go_sem]
  have q2 : w2.cell? ⟨w.heap.size + 1, 2, none⟩ = some (.int .i64 0) := by
    rw [D2.out.cell (p := ⟨w.heap.size + 1, 2, none⟩) (by first | (simp; omega) | simp), cell_far _ _ _ _ (by simp)]
    rw [D1.out.cell (p := ⟨w.heap.size + 1, 2, none⟩) (by first | (simp; omega) | simp)]
    simp [go_sem]
  have q3 : w2.cell? ⟨w.heap.size + 1, 3, none⟩ = some (.string ⟨#[]⟩) := by
    rw [D2.out.cell (p := ⟨w.heap.size + 1, 3, none⟩) (by first | (simp; omega) | simp), cell_far _ _ _ _ (by simp)]
    rw [D1.out.cell (p := ⟨w.heap.size + 1, 3, none⟩) (by first | (simp; omega) | simp)]
    simp [go_sem]
  have q4 : w2.cell? ⟨w.heap.size + 1, 4, none⟩ = some (.slice none 0 0) := by
    rw [D2.out.cell (p := ⟨w.heap.size + 1, 4, none⟩) (by first | (simp; omega) | simp), cell_far _ _ _ _ (by simp)]
    rw [D1.out.cell (p := ⟨w.heap.size + 1, 4, none⟩) (by first | (simp; omega) | simp)]
    simp [go_sem]
  have q5 : w2.cell? ⟨w.heap.size + 1, 5, none⟩ = some (.slice none 0 0) := by
    rw [D2.out.cell (p := ⟨w.heap.size + 1, 5, none⟩) (by first | (simp; omega) | simp), cell_far _ _ _ _ (by simp)]
    rw [D1.out.cell (p := ⟨w.heap.size + 1, 5, none⟩) (by first | (simp; omega) | simp)]
    simp [go_sem]
  go_wp2
  exact bodyPost_ret (v := .agg #[.string x.name, .int .i64 x.kind, .int .i64 x.code, .string x.text, .slice (some ⟨g0, 0, none⟩) x.actN x.actN, .slice (some ⟨g1, 0, none⟩) x.linksN x.linksN]) (by simp [results, Tryd.results57, go_sem, q0, q1, q2, q3, q4, q5]) rfl ⟨g0, g1, rfl, ((((((((R0.out.setOther _ (by first | (simp; omega) | simp) _).kept D2.out (Nat.le_refl _)).setOther _ (by first | (simp; omega) | simp) _).setOther _ (by first | (simp; omega) | simp) _).setOther _ (by first | (simp; omega) | simp) _).setOther _ (by first | (simp; omega) | simp) _).setOther _ (by first | (simp; omega) | simp) _).setOther _ (by first | (simp; omega) | simp) _).setOther _ (by first | (simp; omega) | simp) _, by omega, (((((((R1.out).setOther _ (by first | (simp; omega) | simp) _).setOther _ (by first | (simp; omega) | simp) _).setOther _ (by first | (simp; omega) | simp) _).setOther _ (by first | (simp; omega) | simp) _).setOther _ (by first | (simp; omega) | simp) _).setOther _ (by first | (simp; omega) | simp) _).setOther _ (by first | (simp; omega) | simp) _, by omega, (((((((B2.out).setCell (by first | (simp; omega) | simp) _).setCell (by first | (simp; omega) | simp) _).setCell (by first | (simp; omega) | simp) _).setCell (by first | (simp; omega) | simp) _).setCell (by first | (simp; omega) | simp) _).setCell (by first | (simp; omega) | simp) _).setCell (by first | (simp; omega) | simp) _⟩

/-- Block g is a row of n elements' cells; the first k are those of f, their slices rows of blocks behind g. -/
def OwnDeed2 (w : World) (g n k N : Nat) (f : Nat → Deed) : Prop :=
  ∃ (F : Nat → Value) (G0 G1 : Nat → Nat), w.rowIs g 59 (n * 6) F ∧ (∀ i j, i < j → j < k → G0 i < G0 j ∧ G1 i < G1 j) ∧ (∀ i, i < k → G0 i < N ∧ G1 i < N) ∧ ∀ i, i < k → F (i * 6) = .string (f i).name ∧ F (i * 6 + 1) = .int .i64 (f i).kind ∧ F (i * 6 + 2) = .int .i64 (f i).code ∧ F (i * 6 + 3) = .string (f i).text ∧ (F (i * 6 + 4) = .slice (some ⟨G0 i, 0, none⟩) (f i).actN (f i).actN ∧ OwnIns w (G0 i) (f i).actN (f i).actN (f i).act ∧ g < G0 i) ∧ (F (i * 6 + 5) = .slice (some ⟨G1 i, 0, none⟩) (f i).linksN (f i).linksN ∧ OwnLink w (G1 i) (f i).linksN (f i).linksN (f i).links ∧ g < G1 i)
theorem OwnDeed2.lt {w : World} {g n k N : Nat} {f : Nat → Deed} (h : OwnDeed2 w g n k N f) : g < w.heap.size := by
  obtain ⟨F, G0, G1, hr, _⟩ := h
  exact hr.lt
theorem ownDeed2_start (w : World) (n N : Nat) (f : Nat → Deed) : OwnDeed2 (w.alloc (.cells (zerosDeed n) 59)) w.heap.size n 0 N f := by
  have hz : (zerosDeed n).size = n * 6 := size_madeCells _ _
  have h := World.rowIs_alloc w (zerosDeed n) 59 (fun i => (zerosDeed n)[i]?.getD undef) (fun i hi => by rw [Array.getElem?_eq_getElem hi]; rfl)
  rw [hz] at h
  exact ⟨_, fun _ => 0, fun _ => 0, h, fun i j _ hj => absurd hj (Nat.not_lt_zero _), fun i hi => absurd hi (Nat.not_lt_zero _), fun i hi => absurd hi (Nat.not_lt_zero _)⟩
theorem OwnDeed2.step {w : World} {g n k N g0 g1 : Nat} {f : Nat → Deed} (h : OwnDeed2 w g n k N f) (R0 : OwnIns w g0 (f k).actN (f k).actN (f k).act) (hg0 : g < g0) (R1 : OwnLink w g1 (f k).linksN (f k).linksN (f k).links) (hg1 : g < g1) (hN0 : N ≤ g0) (hN1 : N ≤ g1) {M : Nat} (hM0 : g0 < M) (hM1 : g1 < M) :
    OwnDeed2 ((((((w.setCell ⟨g, k * 6, none⟩ (.string (f k).name)).setCell ⟨g, k * 6 + 1, none⟩ (.int .i64 (f k).kind)).setCell ⟨g, k * 6 + 2, none⟩ (.int .i64 (f k).code)).setCell ⟨g, k * 6 + 3, none⟩ (.string (f k).text)).setCell ⟨g, k * 6 + 4, none⟩ (.slice (some ⟨g0, 0, none⟩) (f k).actN (f k).actN)).setCell ⟨g, k * 6 + 5, none⟩ (.slice (some ⟨g1, 0, none⟩) (f k).linksN (f k).linksN)) g n (k + 1) M f := by
  obtain ⟨F, G0, G1, hr, ha, hN, hF⟩ := h
  refine ⟨_, fun i => if i = k then g0 else G0 i, fun i => if i = k then g1 else G1 i, ((((((hr.set _ _).set _ _).set _ _).set _ _).set _ _).set _ _), fun i j hij hj => ?_, fun i hi => ?_, fun i hi => ?_⟩
  · dsimp only
    rw [if_neg (show ¬ i = k by omega), if_neg (show ¬ i = k by omega)]
    by_cases e : j = k
    · rw [if_pos e, if_pos e]
      have := hN i (by omega)
      omega
    · rw [if_neg e, if_neg e]
      exact ha i j hij (by omega)
  · dsimp only
    by_cases e : i = k
    · rw [if_pos e, if_pos e]
      omega
    · rw [if_neg e, if_neg e]
      have := hN i (by omega)
      omega
  by_cases e : i = k
  · subst e
    exact ⟨by simp, by simp, by simp, by simp, ⟨by simp, by dsimp only; rw [if_pos rfl]; exact ((((((R0).setOther _ (by first | (simp; omega) | simp) _).setOther _ (by first | (simp; omega) | simp) _).setOther _ (by first | (simp; omega) | simp) _).setOther _ (by first | (simp; omega) | simp) _).setOther _ (by first | (simp; omega) | simp) _).setOther _ (by first | (simp; omega) | simp) _, by dsimp only; rw [if_pos rfl]; exact hg0⟩, ⟨by simp, by dsimp only; rw [if_pos rfl]; exact ((((((R1).setOther _ (by first | (simp; omega) | simp) _).setOther _ (by first | (simp; omega) | simp) _).setOther _ (by first | (simp; omega) | simp) _).setOther _ (by first | (simp; omega) | simp) _).setOther _ (by first | (simp; omega) | simp) _).setOther _ (by first | (simp; omega) | simp) _, by dsimp only; rw [if_pos rfl]; exact hg1⟩⟩
  · obtain ⟨p0, p1, p2, p3, ⟨s0, r0, u0⟩, ⟨s1, r1, u1⟩⟩ := hF i (by omega)
    refine ⟨?_, ?_, ?_, ?_, ?_, ?_⟩
    · show (if _ then _ else if _ then _ else if _ then _ else if _ then _ else if _ then _ else if _ then _ else _) = _
      rw [if_neg (by omega), if_neg (by omega), if_neg (by omega), if_neg (by omega), if_neg (by omega), if_neg (by omega), p0]
    · show (if _ then _ else if _ then _ else if _ then _ else if _ then _ else if _ then _ else if _ then _ else _) = _
      rw [if_neg (by omega), if_neg (by omega), if_neg (by omega), if_neg (by omega), if_neg (by omega), if_neg (by omega), p1]
    · show (if _ then _ else if _ then _ else if _ then _ else if _ then _ else if _ then _ else if _ then _ else _) = _
      rw [if_neg (by omega), if_neg (by omega), if_neg (by omega), if_neg (by omega), if_neg (by omega), if_neg (by omega), p2]
    · show (if _ then _ else if _ then _ else if _ then _ else if _ then _ else if _ then _ else if _ then _ else _) = _
      rw [if_neg (by omega), if_neg (by omega), if_neg (by omega), if_neg (by omega), if_neg (by omega), if_neg (by omega), p3]
    · dsimp only
      rw [if_neg e]
      refine ⟨?_, ((((((r0).setOther _ (by first | (simp; omega) | simp) _).setOther _ (by first | (simp; omega) | simp) _).setOther _ (by first | (simp; omega) | simp) _).setOther _ (by first | (simp; omega) | simp) _).setOther _ (by first | (simp; omega) | simp) _).setOther _ (by first | (simp; omega) | simp) _, u0⟩
      show (if _ then _ else if _ then _ else if _ then _ else if _ then _ else if _ then _ else if _ then _ else _) = _
      rw [if_neg (by omega), if_neg (by omega), if_neg (by omega), if_neg (by omega), if_neg (by omega), if_neg (by omega), s0]
    · dsimp only
      rw [if_neg e]
      refine ⟨?_, ((((((r1).setOther _ (by first | (simp; omega) | simp) _).setOther _ (by first | (simp; omega) | simp) _).setOther _ (by first | (simp; omega) | simp) _).setOther _ (by first | (simp; omega) | simp) _).setOther _ (by first | (simp; omega) | simp) _).setOther _ (by first | (simp; omega) | simp) _, u1⟩
      show (if _ then _ else if _ then _ else if _ then _ else if _ then _ else if _ then _ else if _ then _ else _) = _
      rw [if_neg (by omega), if_neg (by omega), if_neg (by omega), if_neg (by omega), if_neg (by omega), if_neg (by omega), s1]
theorem OwnDeed2.below {w w' : World} {g n k N : Nat} {f : Nat → Deed} {B : Nat} (h : OwnDeed2 w g n k N f) (hb : Below B w w') (hB : w.heap.size ≤ B) : OwnDeed2 w' g n k N f := by
  have hl := h.lt
  obtain ⟨F, G0, G1, hr, ha, hN, hF⟩ := h
  refine ⟨F, G0, G1, hr.of_block (hb.block g (Nat.lt_of_lt_of_le hl hB)), ha, hN, fun i hi => ?_⟩
  obtain ⟨p0, p1, p2, p3, ⟨s0, r0, u0⟩, ⟨s1, r1, u1⟩⟩ := hF i hi
  exact ⟨p0, p1, p2, p3, ⟨s0, r0.kept hb hB, u0⟩, ⟨s1, r1.kept hb hB, u1⟩⟩
theorem OwnDeed2.setOther {w : World} {g n k N : Nat} {f : Nat → Deed} (h : OwnDeed2 w g n k N f) (p : Addr) (hp : p.block < g) (v : Value) : OwnDeed2 (w.setCell p v) g n k N f := by
  obtain ⟨F, G0, G1, hr, ha, hN, hF⟩ := h
  refine ⟨F, G0, G1, hr.setOther (by omega) v, ha, hN, fun i hi => ?_⟩
  obtain ⟨p0, p1, p2, p3, ⟨s0, r0, u0⟩, ⟨s1, r1, u1⟩⟩ := hF i hi
  exact ⟨p0, p1, p2, p3, ⟨s0, r0.setOther p (by omega) v, u0⟩, ⟨s1, r1.setOther p (by omega) v, u1⟩⟩
theorem OwnDeed2.row {w : World} {g n N : Nat} {f : Nat → Deed} (h : OwnDeed2 w g n n N f) : RowDeed w g 0 n f := by
  obtain ⟨F, G0, G1, hr, ha, hN, hF⟩ := h
  refine ⟨hr.lt, fun i hi => ?_⟩
  obtain ⟨p0, p1, p2, p3, ⟨s0, r0, u0⟩, ⟨s1, r1, u1⟩⟩ := hF i hi
  refine ⟨?_, ?_, ?_, ?_, ?_, ?_⟩
  · rw [Nat.zero_add, hr.cell (by omega), p0]
  · rw [Nat.zero_add, hr.cell (by omega), p1]
  · rw [Nat.zero_add, hr.cell (by omega), p2]
  · rw [Nat.zero_add, hr.cell (by omega), p3]
  · exact ⟨_, _, by rw [Nat.zero_add, hr.cell (by omega), s0], r0.row.sl⟩
  · exact ⟨_, _, by rw [Nat.zero_add, hr.cell (by omega), s1], r1.row.sl⟩

theorem OwnDeed2.up {w : World} {g n k N : Nat} {f : Nat → Deed} (h : OwnDeed2 w g n k N f) {M : Nat} (hN : N ≤ M) : OwnDeed2 w g n k M f := by
  obtain ⟨F, G0, G1, hr, ha, hb, hF⟩ := h
  exact ⟨F, G0, G1, hr, ha, fun i hi => ⟨Nat.lt_of_lt_of_le (hb i hi).1 hN, Nat.lt_of_lt_of_le (hb i hi).2 hN⟩, hF⟩
theorem OwnDeed2.old {w : World} {g n k N : Nat} {f : Nat → Deed} (h : OwnDeed2 w g n k N f) : OwnDeed w g n k f := by
  obtain ⟨F, G0, G1, hr, ha, hN, hF⟩ := h
  refine ⟨F, G0, G1, hr, fun i hi => ?_⟩
  obtain ⟨p0, p1, p2, p3, ⟨s0, r0, u0⟩, ⟨s1, r1, u1⟩⟩ := hF i hi
  exact ⟨p0, p1, p2, p3, ⟨s0, r0.row, u0⟩, ⟨s1, r1.row, u1⟩⟩


set_option maxHeartbeats 2000000 in
theorem toDeedS_rowO (b off n cap : Nat) (f : Nat → Deed) (w : World) (hn : n ≤ 1048576) (hf : RowDeed w b off n f) (hm : ∀ i, i < n → FitsDeed (f i)) :
    Calls Tryd.prog 35 #[.slice (some ⟨b, off, none⟩) n cap] w fun e w' => ∃ g, e = .returned (.slice (some ⟨g, 0, none⟩) n n) ∧ OwnDeed2 w' g n n w'.heap.size f ∧ w.heap.size ≤ g ∧ Below w.heap.size w w' := by
  have HF := hide hf
  have HM := hide hm
  clear hf hm
  have hmk := mkDeed n hn
  go_enter Tryd.func35, Tryd.ntmps35
  go_wp2
  clear hmk
  go_loopw [4] (fun i wr => ∃ k : Nat, k ≤ n ∧ i = .int .i64 k ∧ OwnDeed2 wr w.heap.size n k wr.heap.size f ∧ Below w.heap.size w wr) (fun i _ => n - (intOf i).toNat)
  case atStart => exact ⟨0, by omega, rfl, ownDeed2_start w n _ f, (Below.refl _ _).alloc (Nat.le_refl _) _⟩
  case round =>
    obtain ⟨k, hk, rfl, hO, hB⟩ := hrel
    have HO := hide hO
    have HB := hide hB
    have hsz : w.heap.size ≤ wr.heap.size := hB.size
    have hlo : w.heap.size < wr.heap.size := hO.lt
    clear hB
    by_cases hlt : k < n
    · obtain ⟨p0, p1, p2, p3, ⟨a0, cap0, s0, r0⟩, ⟨a1, cap1, s1, r1⟩⟩ := (HF.out.2 k hlt).below HB.out (Nat.le_refl _) HF.out.1
      have HR := hide (show SlIns wr a0 (f k).actN (f k).act ∧ SlLink wr a1 (f k).linksN (f k).links from ⟨r0, r1⟩)
      clear hO r0 r1
      go_wp2_with fail
      refine (toDeed_anyO (f k) a0 cap0 a1 cap1 _ (HM.out k hlt) HR.out.1 HR.out.2).mono ?_
      rintro e w1 ⟨g0, g1, rfl, hR0, hg0, hR1, hg1, hB1⟩
      have HO1 := hide (HO.out.below hB1 (Nat.le_refl _))
      have R0 := hide hR0
      have R1 := hide hR1
      have HB1 := hide (HB.out.trans (hB1.mono hsz))
      have hz1 := hide hB1.size
      clear hB1 hR0 hR1
      have hl0 := R0.out.lt
      have hl1 := R1.out.lt
      have hzz := hz1.out
      have ST := hide (HO1.out.step R0.out (by omega) R1.out (by omega) hg0 hg1 (M := ((((((w1.setCell ⟨w.heap.size, k * 6, none⟩ (.string (f k).name)).setCell ⟨w.heap.size, k * 6 + 1, none⟩ (.int .i64 (f k).kind)).setCell ⟨w.heap.size, k * 6 + 2, none⟩ (.int .i64 (f k).code)).setCell ⟨w.heap.size, k * 6 + 3, none⟩ (.string (f k).text)).setCell ⟨w.heap.size, k * 6 + 4, none⟩ (.slice (some ⟨g0, 0, none⟩) (f k).actN (f k).actN)).setCell ⟨w.heap.size, k * 6 + 5, none⟩ (.slice (some ⟨g1, 0, none⟩) (f k).linksN (f k).linksN)).heap.size) (by simp; omega) (by simp; omega))
      clear hzz hl0 hl1
      obtain ⟨F, G0, G1, hr, _⟩ := HO1.out
      have d0 := hr.cell (i := k * 6) (by omega)
      have z0 := hr.frozen (k * 6)
      have d1 := hr.cell (i := k * 6 + 1) (by omega)
      have z1 := hr.frozen (k * 6 + 1)
      have d2 := hr.cell (i := k * 6 + 2) (by omega)
      have z2 := hr.frozen (k * 6 + 2)
      have d3 := hr.cell (i := k * 6 + 3) (by omega)
      have z3 := hr.frozen (k * 6 + 3)
      have d4 := hr.cell (i := k * 6 + 4) (by omega)
      have z4 := hr.frozen (k * 6 + 4)
      have d5 := hr.cell (i := k * 6 + 5) (by omega)
      have z5 := hr.frozen (k * 6 + 5)
      clear hr p0 p1 p2 p3 s0 s1
      go_wp2
      exact ⟨⟨k + 1, by omega, by go_num, ST.out, ((((((HB1.out).setCell (Nat.le_refl _) _).setCell (Nat.le_refl _) _).setCell (Nat.le_refl _) _).setCell (Nat.le_refl _) _).setCell (Nat.le_refl _) _).setCell (Nat.le_refl _) _⟩, by simp [intOf]; omega⟩
    · have e : k = n := by omega
      subst e
      clear hO
      go_wp2
      go_ret
      exact ⟨_, rfl, HO.out, Nat.le_refl _, HB.out⟩

set_option maxHeartbeats 1000000 in
theorem toDeedS_nilO (a : Option Addr) (cap : Nat) (f : Nat → Deed) (w : World) :
    Calls Tryd.prog 35 #[.slice a 0 cap] w fun e w' => ∃ g, e = .returned (.slice (some ⟨g, 0, none⟩) 0 0) ∧ OwnDeed2 w' g 0 0 w'.heap.size f ∧ w.heap.size ≤ g ∧ Below w.heap.size w w' := by
  have hmk : ∀ w : World, (Instr.makeSlice 28 (.int .i64 0) (.int .i64 0)).run Tryd.prog w = .ok (.slice (some ⟨w.heap.size, 0, none⟩) 0 0) (w.alloc (.cells (zerosDeed 0) 59)) := fun w => mkDeed 0 (by omega) w
  go_enter Tryd.func35, Tryd.ntmps35
  go_wp2
  clear hmk
  go_loop [4] (fun i => i = .int .i64 0) (fun _ => 0)
  case atStart => rfl
  case round =>
    subst hrel
    go_wp2
    go_ret
    exact ⟨_, rfl, ownDeed2_start w 0 _ f, Nat.le_refl _, (Below.refl _ _).alloc (Nat.le_refl _) _⟩

theorem toDeedS_anyO (a : Option Addr) (n cap : Nat) (f : Nat → Deed) (w : World) (hn : n ≤ 1048576) (hv : SlDeed w a n f) (hm : ∀ i, i < n → FitsDeed (f i)) :
    Calls Tryd.prog 35 #[.slice a n cap] w fun e w' => ∃ g, e = .returned (.slice (some ⟨g, 0, none⟩) n n) ∧ OwnDeed2 w' g n n w'.heap.size f ∧ w.heap.size ≤ g ∧ Below w.heap.size w w' := by
  rcases hv with rfl | ⟨b, off, rfl, hr⟩
  · exact toDeedS_nilO a cap f w
  · exact toDeedS_rowO b off n cap f w hn hr hm

set_option maxHeartbeats 1000000 in
theorem toAccount_anyO (a : Option Addr) (n cap : Nat) (f : Nat → Deed) (w : World) (hn : n ≤ 1048576) (hv : SlDeed w a n f) (hm : ∀ i, i < n → FitsDeed (f i)) :
    Calls Tryd.prog 10 #[.agg #[.slice a n cap]] w fun e w' => ∃ g, e = .returned (.agg #[.slice (some ⟨g, 0, none⟩) n n]) ∧ OwnDeed2 w' g n n w'.heap.size f ∧ w.heap.size ≤ g ∧ Below w.heap.size w w' := by
  have HV := hide hv
  clear hv
  go_enter Tryd.func10, Tryd.ntmps10
  go_wp2_with fail
  refine (toDeedS_anyO a n cap f _ hn (HV.out.below ((((Below.refl _ _).alloc (Nat.le_refl _) _).alloc (by simp) _).alloc (by simp; omega) _) (Nat.le_refl _)) hm).mono ?_
  rintro e w' ⟨g, rfl, hv', hg, hB⟩
  have HV' := hide hv'
  have HB := hide hB
  obtain ⟨hc, hz⟩ := bcell hB
  clear hv' hB
  simp at hg
  go_wp2
  refine bodyPost_ret (v := .agg #[.slice (some ⟨g, 0, none⟩) n n]) (by simp [results, Tryd.results10, go_sem, hc]) rfl ⟨g, rfl, ((HV'.out.setOther _ (by simp; omega) _).setOther _ (by simp; omega) _).up (by simp), by omega, ?_⟩
  exact ((((((Below.refl _ _).alloc (Nat.le_refl _) _).alloc (by simp) _).alloc (by simp; omega) _).trans (HB.out.mono (by simp; omega))).setCell (by simp; omega) _).setCell (by simp) _

end Go.Proofs.YtggchgpphhhleaaDoor.Vp
