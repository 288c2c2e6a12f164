/-
  Data: Link: sizes, copies, comparisons. Written by tools/flat.py. Parted by tools/splitd.py.
-/
import Derived.Test.YtolpgafkojlkoabDoorDBase
namespace Go.Proofs.YtolpgafkojlkoabDoor.Vp
open Go.RowKit

structure Link where
  name : ByteArray
  ask : Bool
  has : Bool
  at_ : Int

/-- The cells of element i of a row that begins at off in block b. -/
def AtLink (w : World) (b off i : Nat) (x : Link) : Prop :=
  w.cell? ⟨b, off + i * 4, none⟩ = some (.string x.name) ∧ w.cell? ⟨b, off + i * 4 + 1, none⟩ = some (.bool x.ask) ∧ w.cell? ⟨b, off + i * 4 + 2, none⟩ = some (.bool x.has) ∧ w.cell? ⟨b, off + i * 4 + 3, none⟩ = some (.int .i64 x.at_)
theorem AtLink.below {w w' : World} {B b off i : Nat} {x : Link} (h : AtLink w b off i x) (hb : Below B w w') (hB : b < B) : AtLink w' b off i x :=
  ⟨(hb.cell (p := ⟨b, _, none⟩) hB).trans h.1, (hb.cell (p := ⟨b, _, none⟩) hB).trans h.2.1, (hb.cell (p := ⟨b, _, none⟩) hB).trans h.2.2.1, (hb.cell (p := ⟨b, _, none⟩) hB).trans h.2.2.2⟩
/-- A row of n in block b, from off on. -/
def RowLink (w : World) (b off n : Nat) (f : Nat → Link) : Prop := b < w.heap.size ∧ ∀ i, i < n → AtLink w b off i (f i)
theorem RowLink.below {w w' : World} {B b off n : Nat} {f : Nat → Link} (h : RowLink w b off n f) (hb : Below B w w') (hB : w.heap.size ≤ B) : RowLink w' b off n f :=
  ⟨Nat.lt_of_lt_of_le h.1 hb.size, fun i hi => (h.2 i hi).below hb (Nat.lt_of_lt_of_le h.1 hB)⟩
theorem RowLink.setOther {w : World} {g n off : Nat} {f : Nat → Link} (h : RowLink w g off n f) (p : Addr) (hp : p.block ≠ g) (v : Value) : RowLink (w.setCell p v) g off n f := by
  refine ⟨by simpa using h.1, fun i hi => ?_⟩
  have h := h.2 i hi
  have far : ∀ o, (w.setCell p v).cell? ⟨g, o, none⟩ = w.cell? ⟨g, o, none⟩ := fun o => World.cell?_of_block (w := w) (a := ⟨g, o, none⟩) (Below.heap_setCell w p v g (fun e => hp e.symm))
  exact ⟨(far _).trans h.1, (far _).trans h.2.1, (far _).trans h.2.2.1, (far _).trans h.2.2.2⟩
/-- A slice: an empty one, or a row of n. -/
def SlLink (w : World) (a : Option Addr) (n : Nat) (f : Nat → Link) : Prop := n = 0 ∨ ∃ b off, a = some ⟨b, off, none⟩ ∧ RowLink w b off n f
theorem SlLink.below {w w' : World} {B : Nat} {a : Option Addr} {n : Nat} {f : Nat → Link} (h : SlLink w a n f) (hb : Below B w w') (hB : w.heap.size ≤ B) : SlLink w' a n f := by
  rcases h with h | ⟨b, off, hv, hr⟩
  · exact .inl h
  · exact .inr ⟨b, off, hv, hr.below hb hB⟩
theorem RowLink.sl {w : World} {b off n : Nat} {f : Nat → Link} (h : RowLink w b off n f) : SlLink w (some ⟨b, off, none⟩) n f := .inr ⟨b, off, rfl, h⟩

theorem infoLink : (Tryd.prog.info? 73).map (fun i => (i.zero, i.size, i.bytes)) = some (some (.agg #[.string ⟨#[]⟩, .bool false, .bool false, .int .i64 0]), 4, 32) := by kernel_rfl
def zerosLink (n : Nat) : Array Value := madeCells (Value.agg #[.string ⟨#[]⟩, .bool false, .bool false, .int .i64 0]).cells (n * 4)
theorem mkLink (n : Nat) (hn : n ≤ 1048576) (w : World) : (Instr.makeSlice 39 (.int .i64 (n : Int)) (.int .i64 (n : Int))).run Tryd.prog w = .ok (.slice (some ⟨w.heap.size, 0, none⟩) n n) (w.alloc (.cells (zerosLink n) 73)) := by
  obtain ⟨i, hi, hz⟩ := Option.map_eq_some_iff.1 infoLink
  simp only [Prod.mk.injEq] at hz
  obtain ⟨h1, h2, h3⟩ := hz
  have h := run_make (P := Tryd.prog) w 39 73 i _ Tryd.underlying39 hi h1 .i64 .i64 n n (by omega) (Int.le_refl _) (by rw [h3]; omega) (by omega)
  rw [h2] at h
  simpa [zerosLink] using h

/-- Block g is a row of n elements' cells; the first k are those of f. -/
def OwnLink (w : World) (g n k : Nat) (f : Nat → Link) : Prop :=
  ∃ F, w.rowIs g 73 (n * 4) F ∧ ∀ i, i < k → F (i * 4) = .string (f i).name ∧ F (i * 4 + 1) = .bool (f i).ask ∧ F (i * 4 + 2) = .bool (f i).has ∧ F (i * 4 + 3) = .int .i64 (f i).at_
theorem ownLink_start (w : World) (n : Nat) (f : Nat → Link) : OwnLink (w.alloc (.cells (zerosLink n) 73)) w.heap.size n 0 f := by
  have hz : (zerosLink n).size = n * 4 := size_madeCells _ _
  have h := World.rowIs_alloc w (zerosLink n) 73 (fun i => (zerosLink n)[i]?.getD undef) (fun i hi => by rw [Array.getElem?_eq_getElem hi]; rfl)
  rw [hz] at h
  exact ⟨_, h, fun i hi => absurd hi (Nat.not_lt_zero _)⟩
theorem OwnLink.step {w : World} {g n k : Nat} {f : Nat → Link} (h : OwnLink w g n k f) :
    OwnLink ((((w.setCell ⟨g, k * 4, none⟩ (.string (f k).name)).setCell ⟨g, k * 4 + 1, none⟩ (.bool (f k).ask)).setCell ⟨g, k * 4 + 2, none⟩ (.bool (f k).has)).setCell ⟨g, k * 4 + 3, none⟩ (.int .i64 (f k).at_)) g n (k + 1) f := by
  obtain ⟨F, hr, hF⟩ := h
  refine ⟨_, ((((hr.set _ _).set _ _).set _ _).set _ _), fun i hi => ?_⟩
  by_cases e : i = k
  · subst e
    exact ⟨by simp, by simp, by simp, by simp⟩
  · have h := hF i (by omega)
    refine ⟨?_, ?_, ?_, ?_⟩
    · show (if _ then _ else if _ then _ else if _ then _ else if _ then _ else _) = _
      rw [if_neg (by omega), if_neg (by omega), if_neg (by omega), if_neg (by omega), h.1]
    · show (if _ then _ else if _ then _ else if _ then _ else if _ then _ else _) = _
      rw [if_neg (by omega), if_neg (by omega), if_neg (by omega), if_neg (by omega), h.2.1]
    · show (if _ then _ else if _ then _ else if _ then _ else if _ then _ else _) = _
      rw [if_neg (by omega), if_neg (by omega), if_neg (by omega), if_neg (by omega), h.2.2.1]
    · show (if _ then _ else if _ then _ else if _ then _ else if _ then _ else _) = _
      rw [if_neg (by omega), if_neg (by omega), if_neg (by omega), if_neg (by omega), h.2.2.2]
theorem OwnLink.below {w w' : World} {g n k : Nat} {f : Nat → Link} {B : Nat} (h : OwnLink w g n k f) (hb : Below B w w') (hB : g < B) : OwnLink w' g n k f := by
  obtain ⟨F, hr, hF⟩ := h
  exact ⟨F, hr.of_block (hb.block g hB), hF⟩
theorem OwnLink.row {w : World} {g n : Nat} {f : Nat → Link} (h : OwnLink w g n n f) : RowLink w g 0 n f := by
  obtain ⟨F, hr, hF⟩ := h
  refine ⟨hr.lt, fun i hi => ?_⟩
  have h := hF i hi
  refine ⟨?_, ?_, ?_, ?_⟩
  · rw [Nat.zero_add, hr.cell (by omega), h.1]
  · rw [Nat.zero_add, hr.cell (by omega), h.2.1]
  · rw [Nat.zero_add, hr.cell (by omega), h.2.2.1]
  · rw [Nat.zero_add, hr.cell (by omega), h.2.2.2]

set_option maxHeartbeats 400000 in
theorem eqLink_same (name : ByteArray) (ask : Bool) (has : Bool) (at_ : Int) (w : World) :
    Calls Tryd.prog 48 #[.agg #[.string name, .bool ask, .bool has, .int .i64 at_], .agg #[.string name, .bool ask, .bool has, .int .i64 at_]] w fun e w' => e = .returned (.bool true) ∧ Below w.heap.size w w' := by
  go_enter Tryd.func48, Tryd.ntmps48
  go_wp2
  go_ret
  exact ⟨rfl, ((Below.refl _ _).alloc (Nat.le_refl _) _).alloc (by simp) _⟩

set_option maxHeartbeats 1000000 in
theorem eqLinkS_row (b off cap b2 off2 cap2 n : Nat) (f : Nat → Link) (w : World) (hn : n ≤ 1048576) (hb : b < w.heap.size) (hf : ∀ i, i < n → AtLink w b off i (f i)) (hb2 : b2 < w.heap.size) (hf2 : ∀ i, i < n → AtLink w b2 off2 i (f i)) :
    Calls Tryd.prog 39 #[.slice (some ⟨b, off, none⟩) n cap, .slice (some ⟨b2, off2, none⟩) n cap2] w fun e w' => e = .returned (.bool true) ∧ Below w.heap.size w w' := by
  have HF := hide hf
  have HF2 := hide hf2
  clear hf hf2
  go_enter Tryd.func39, Tryd.ntmps39
  go_wp2
  go_loopw [5] (fun i wr => ∃ k : Nat, k ≤ n ∧ i = .int .i64 k ∧ Below w.heap.size w wr) (fun i _ => n - (intOf i).toNat)
  case atStart => exact ⟨0, by omega, rfl, Below.refl _ _⟩
  case round =>
    obtain ⟨k, hk, rfl, hB⟩ := hrel
    have HB := hide hB
    have hsz : w.heap.size ≤ wr.heap.size := hB.size
    clear hB
    by_cases hlt : k < n
    · obtain ⟨c0, c1, c2, c3⟩ := (HF k hlt).below HB hb
      obtain ⟨d0, d1, d2, d3⟩ := (HF2 k hlt).below HB hb2
      go_wp2_with fail
      go_region_with (go_at_call 48; refine (eqLink_same _ _ _ _ _).mono ?_; rintro e w' ⟨rfl, hB'⟩)
      all_goals
        go_wp2
        exact ⟨⟨k + 1, by omega, by go_num, Below.trans (by repeat (first | exact HB | apply Below.drew)) (hB'.mono hsz)⟩, by simp [intOf]; omega⟩
    · have e : k = n := by omega
      subst e
      go_wp2
      go_ret
      exact ⟨rfl, HB⟩

set_option maxHeartbeats 1000000 in
theorem eqLinkS_nil (a a2 : Option Addr) (cap cap2 : Nat) (w : World) :
    Calls Tryd.prog 39 #[.slice a 0 cap, .slice a2 0 cap2] w fun e w' => e = .returned (.bool true) ∧ w' = w := by
  go_enter Tryd.func39, Tryd.ntmps39
  go_wp2
  go_loop [5] (fun i => i = .int .i64 0) (fun _ => 0)
  case atStart => rfl
  case round =>
    subst hrel
    go_wp2
    go_ret
    exact ⟨rfl, rfl⟩

/-- The same elements: equal. -/
theorem eqLinkS_any (a a2 : Option Addr) (cap cap2 n : Nat) (f : Nat → Link) (w : World) (hn : n ≤ 1048576) (h : SlLink w a n f) (h2 : SlLink w a2 n f) :
    Calls Tryd.prog 39 #[.slice a n cap, .slice a2 n cap2] w fun e w' => e = .returned (.bool true) ∧ Below w.heap.size w w' := by
  by_cases hz : n = 0
  · subst hz
    exact (eqLinkS_nil a a2 cap cap2 w).mono fun _ _ ⟨a, b⟩ => ⟨a, by rw [b]; exact Below.refl _ _⟩
  · rcases h with h | ⟨b, off, rfl, hb, hf⟩
    · exact absurd h hz
    · rcases h2 with h | ⟨b2, off2, rfl, hb2, hf2⟩
      · exact absurd h hz
      · exact eqLinkS_row b off cap b2 off2 cap2 n f w hn hb hf hb2 hf2

end Go.Proofs.YtolpgafkojlkoabDoor.Vp
