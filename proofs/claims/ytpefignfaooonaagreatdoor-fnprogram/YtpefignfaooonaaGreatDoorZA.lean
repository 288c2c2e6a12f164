/-
  Put together of: DBase, DOnly, DRowS, DInsC, VpWord, VpOk.
-/
import Derived.Test.YtpefignfaooonaaGreatDoorProg
import Derived.WalkKit
import Derived.WalkSpells
import Derived.WalkLawsBesides
import Derived.Deep.OwnRows
import Derived.Deep.RegionWith
import Derived.Deep.QuietTactic
import Derived.BigQuiet

/-
  Small facts that all data texts use.
-/
namespace Go.Proofs.YtpefignfaooonaaGreatDoor.Vp
open Go.RowKit

theorem hide {p : Prop} (h : p) : Hid p := h
theorem bcell {W w1 : World} (hb : Below W.heap.size W w1) : (∀ b o, b < W.heap.size → w1.cell? ⟨b, o, none⟩ = W.cell? ⟨b, o, none⟩) ∧ (∀ b o, b < W.heap.size → w1.frozen? ⟨b, o, none⟩ = W.frozen? ⟨b, o, none⟩) :=
  ⟨fun b o h => hb.cell (p := ⟨b, o, none⟩) h, fun b o h => hb.frozen (p := ⟨b, o, none⟩) h⟩
theorem cell_far (w : World) (p a : Addr) (v : Value) (h : p.block ≠ a.block) : (w.setCell p v).cell? a = w.cell? a :=
  World.cell?_of_block (w := w) (a := a) (Below.heap_setCell w p v a.block (fun e => h e.symm))
theorem ret_bool {a b : Bool} (h : a = b) : Ending.returned (.bool a) = .returned (.bool b) := by rw [h]
theorem ret_str {a b : ByteArray} (h : a = b) : Ending.returned (.string a) = .returned (.string b) := by rw [h]
theorem empty_of_size {s : ByteArray} (h : s.size = 0) : s = ⟨#[]⟩ := by
  obtain ⟨a⟩ := s
  have : a.size = 0 := h
  rw [Array.eq_empty_of_size_eq_zero this]
theorem toList_ne {s : ByteArray} (h : ¬ s.size = 0) : ¬ s.toList = [] := by
  intro e
  have h2 : s.toList.length = s.size := by rw [ByteArray.toList_eq]; rfl
  rw [e] at h2
  simp at h2
  omega

end Go.Proofs.YtpefignfaooonaaGreatDoor.Vp

/-
  Of the blocks that were there, one alone may have changed.
-/
namespace Go.Proofs.YtpefignfaooonaaGreatDoor.Vp
open Go.RowKit

/-- Of the blocks that were there, b alone may have changed. -/
structure Only (b : Nat) (w w' : World) : Prop where
  os : w'.os = w.os
  tape : w'.tape = w.tape
  output : w'.output = w.output
  size : w.heap.size ≤ w'.heap.size
  block : ∀ k, k < w.heap.size → k ≠ b → w'.heap[k]? = w.heap[k]?
  ty : ∀ cs t fz, w.heap[b]? = some (.cells cs t fz) → ∃ cs', w'.heap[b]? = some (.cells cs' t fz)
theorem Only.refl (b : Nat) (w : World) : Only b w w := ⟨rfl, rfl, rfl, Nat.le_refl _, fun _ _ _ => rfl, fun cs _ _ h => ⟨cs, h⟩⟩
theorem heap_in {w : World} {i : Nat} {o : Obj} (h : w.heap[i]? = some o) : i < w.heap.size := by
  rcases Nat.lt_or_ge i w.heap.size with h' | h'
  · exact h'
  · rw [Array.getElem?_eq_none h'] at h; cases h
theorem heap_set_at {w : World} {b j : Nat} {cs : Array Value} {t : TypeId} {fz : Nat × Nat} (h : w.heap[b]? = some (.cells cs t fz)) (v : Value) : (w.setCell ⟨b, j, none⟩ v).heap[b]? = some (.cells (cs.setIfInBounds j v) t fz) := by
  simp only [World.setCell, Array.getElem?_modify, if_pos, h, Option.map_some]
  rfl
theorem Only.trans {b : Nat} {u v w : World} (h : Only b u v) (k : Only b v w) : Only b u w :=
  ⟨k.os.trans h.os, k.tape.trans h.tape, k.output.trans h.output, Nat.le_trans h.size k.size, fun i hi ho => (k.block i (Nat.lt_of_lt_of_le hi h.size) ho).trans (h.block i hi ho), fun cs t fz hb => let ⟨cs1, h1⟩ := h.ty cs t fz hb; k.ty cs1 t fz h1⟩
theorem Only.of_below {b : Nat} {w w' : World} (h : Below w.heap.size w w') : Only b w w' := ⟨h.os, h.tape, h.output, h.size, fun i hi _ => h.block i hi, fun cs _ _ hb => ⟨cs, (h.block b (heap_in hb)).trans hb⟩⟩
theorem Only.drew {b : Nat} {u w : World} (h : Only b u w) : Only b u w.drew := h.trans (Only.of_below (Below.refl _ _).drew)
theorem Only.al {b : Nat} {u w : World} (h : Only b u w) (o : Obj) : Only b u (w.alloc o) := h.trans (Only.of_below ((Below.refl _ _).alloc (Nat.le_refl _) _))
theorem Only.below {b B : Nat} {w w' : World} (h : Only b w w') (hB : B ≤ b) (hw : B ≤ w.heap.size) : Below B w w' := ⟨h.os, h.tape, h.output, h.size, fun k hk => h.block k (by omega) (by omega)⟩
theorem Only.cell {b : Nat} {w w' : World} (h : Only b w w') (k o : Nat) (hk : k < w.heap.size) (hb : k ≠ b) : w'.cell? ⟨k, o, none⟩ = w.cell? ⟨k, o, none⟩ := World.cell?_of_block (w := w) (a := ⟨k, o, none⟩) (h.block k hk hb)
theorem bset {a w : World} {b : Nat} (h : Only b a w) (j : Nat) (v : Value) : Only b a (w.setCell ⟨b, j, none⟩ v) :=
  h.trans ⟨rfl, rfl, rfl, by simp [World.setCell], fun k _ ho => Below.heap_setCell _ _ _ _ (by simpa using ho), fun _ _ _ hb => ⟨_, heap_set_at hb v⟩⟩
theorem end0 {P : Program} {fn : Func} {R : Ending → World → Prop} {a : Act} {w : World} (hr : fn.results = #[]) (hd : a.defers = []) (hR : R (.returned (.tuple #[])) w) : bodyPost P fn R .normal a w :=
  bodyPost_end (v := .tuple #[]) (by simp [results, hr]) hd hR

theorem ret0 {P : Program} {fn : Func} {R : Ending → World → Prop} {a : Act} {w : World} (hr : fn.results = #[]) (hd : a.defers = []) (hR : R (.returned (.tuple #[])) w) : bodyPost P fn R .ret a w :=
  bodyPost_ret (v := .tuple #[]) (by simp [results, hr]) hd hR
end Go.Proofs.YtpefignfaooonaaGreatDoor.Vp

/-
  Data: rows of texts.
-/
namespace Go.Proofs.YtpefignfaooonaaGreatDoor.Vp
open Go.RowKit

/-- A row of n texts in block b, from off on. -/
def RowStr (w : World) (b off n : Nat) (f : Nat → ByteArray) : Prop := b < w.heap.size ∧ ∀ i, i < n → w.cell? ⟨b, off + i, none⟩ = some (.string (f i))
theorem RowStr.below {w w' : World} {B b off n : Nat} {f : Nat → ByteArray} (h : RowStr w b off n f) (hb : Below B w w') (hB : w.heap.size ≤ B) : RowStr w' b off n f :=
  ⟨Nat.lt_of_lt_of_le h.1 hb.size, fun i hi => (hb.cell (p := ⟨b, _, none⟩) (Nat.lt_of_lt_of_le h.1 hB)).trans (h.2 i hi)⟩
theorem RowStr.low {w w' : World} {B b off n : Nat} {f : Nat → ByteArray} (h : RowStr w b off n f) (hb : Below B w w') (hB : b < B) : RowStr w' b off n f :=
  ⟨Nat.lt_of_lt_of_le h.1 hb.size, fun i hi => (hb.cell (p := ⟨b, _, none⟩) hB).trans (h.2 i hi)⟩
theorem RowStr.setOther {w : World} {g n off : Nat} {f : Nat → ByteArray} (h : RowStr w g off n f) (p : Addr) (hp : p.block ≠ g) (v : Value) : RowStr (w.setCell p v) g off n f :=
  ⟨by simpa using h.1, fun i hi => (World.cell?_of_block (w := w) (a := ⟨g, off + i, none⟩) (Below.heap_setCell w p v g (fun e => hp e.symm))).trans (h.2 i hi)⟩
def SlStr (w : World) (a : Option Addr) (n : Nat) (f : Nat → ByteArray) : Prop := n = 0 ∨ ∃ b off, a = some ⟨b, off, none⟩ ∧ RowStr w b off n f
theorem SlStr.below {w w' : World} {B : Nat} {a : Option Addr} {n : Nat} {f : Nat → ByteArray} (h : SlStr w a n f) (hb : Below B w w') (hB : w.heap.size ≤ B) : SlStr w' a n f := by
  rcases h with h | ⟨b, off, hv, hr⟩
  · exact .inl h
  · exact .inr ⟨b, off, hv, hr.below hb hB⟩
theorem RowStr.sl {w : World} {b off n : Nat} {f : Nat → ByteArray} (h : RowStr w b off n f) : SlStr w (some ⟨b, off, none⟩) n f := .inr ⟨b, off, rfl, h⟩
theorem infoString : (Tryz.prog.info? 9).map (fun i => (i.zero, i.size, i.bytes)) = some (some (.string ⟨#[]⟩), 1, 16) := by kernel_rfl

end Go.Proofs.YtpefignfaooonaaGreatDoor.Vp

/-
  Data: Ins: sizes, copies, comparisons. Written by tools/flat.py. Parted by tools/splitd.py; the definitions alone.
-/
namespace Go.Proofs.YtpefignfaooonaaGreatDoor.Vp
open Go.RowKit

structure Ins where
  op : Int
  s : ByteArray
  n : Int

/-- The cells of element i of a row that begins at off in block b. -/
def AtIns (w : World) (b off i : Nat) (x : Ins) : Prop :=
  w.cell? ⟨b, off + i * 3, none⟩ = some (.int .i64 x.op) ∧ w.cell? ⟨b, off + i * 3 + 1, none⟩ = some (.string x.s) ∧ w.cell? ⟨b, off + i * 3 + 2, none⟩ = some (.int .i64 x.n)
theorem AtIns.below {w w' : World} {B b off i : Nat} {x : Ins} (h : AtIns w b off i x) (hb : Below B w w') (hB : b < B) : AtIns w' b off i x :=
  ⟨(hb.cell (p := ⟨b, _, none⟩) hB).trans h.1, (hb.cell (p := ⟨b, _, none⟩) hB).trans h.2.1, (hb.cell (p := ⟨b, _, none⟩) hB).trans h.2.2⟩
/-- A row of n in block b, from off on. -/
def RowIns (w : World) (b off n : Nat) (f : Nat → Ins) : Prop := b < w.heap.size ∧ ∀ i, i < n → AtIns w b off i (f i)
theorem RowIns.below {w w' : World} {B b off n : Nat} {f : Nat → Ins} (h : RowIns w b off n f) (hb : Below B w w') (hB : w.heap.size ≤ B) : RowIns w' b off n f :=
  ⟨Nat.lt_of_lt_of_le h.1 hb.size, fun i hi => (h.2 i hi).below hb (Nat.lt_of_lt_of_le h.1 hB)⟩
theorem RowIns.setOther {w : World} {g n off : Nat} {f : Nat → Ins} (h : RowIns w g off n f) (p : Addr) (hp : p.block ≠ g) (v : Value) : RowIns (w.setCell p v) g off n f := by
  refine ⟨by simpa using h.1, fun i hi => ?_⟩
  have h := h.2 i hi
  have far : ∀ o, (w.setCell p v).cell? ⟨g, o, none⟩ = w.cell? ⟨g, o, none⟩ := fun o => World.cell?_of_block (w := w) (a := ⟨g, o, none⟩) (Below.heap_setCell w p v g (fun e => hp e.symm))
  exact ⟨(far _).trans h.1, (far _).trans h.2.1, (far _).trans h.2.2⟩
/-- A slice: an empty one, or a row of n. -/
def SlIns (w : World) (a : Option Addr) (n : Nat) (f : Nat → Ins) : Prop := n = 0 ∨ ∃ b off, a = some ⟨b, off, none⟩ ∧ RowIns w b off n f
theorem SlIns.below {w w' : World} {B : Nat} {a : Option Addr} {n : Nat} {f : Nat → Ins} (h : SlIns w a n f) (hb : Below B w w') (hB : w.heap.size ≤ B) : SlIns w' a n f := by
  rcases h with h | ⟨b, off, hv, hr⟩
  · exact .inl h
  · exact .inr ⟨b, off, hv, hr.below hb hB⟩
theorem RowIns.sl {w : World} {b off n : Nat} {f : Nat → Ins} (h : RowIns w b off n f) : SlIns w (some ⟨b, off, none⟩) n f := .inr ⟨b, off, rfl, h⟩

theorem infoIns : (Tryz.prog.info? 41).map (fun i => (i.zero, i.size, i.bytes)) = some (some (.agg #[.int .i64 0, .string ⟨#[]⟩, .int .i64 0]), 3, 32) := by kernel_rfl
def zerosIns (n : Nat) : Array Value := madeCells (Value.agg #[.int .i64 0, .string ⟨#[]⟩, .int .i64 0]).cells (n * 3)
theorem mkIns (n : Nat) (hn : n ≤ 1048576) (w : World) : (Instr.makeSlice 22 (.int .i64 (n : Int)) (.int .i64 (n : Int))).run Tryz.prog w = .ok (.slice (some ⟨w.heap.size, 0, none⟩) n n) (w.alloc (.cells (zerosIns n) 41)) := by
  obtain ⟨i, hi, hz⟩ := Option.map_eq_some_iff.1 infoIns
  simp only [Prod.mk.injEq] at hz
  obtain ⟨h1, h2, h3⟩ := hz
  have h := run_make (P := Tryz.prog) w 22 41 i _ Tryz.underlying22 hi h1 .i64 .i64 n n (by omega) (Int.le_refl _) (by rw [h3]; omega) (by omega)
  rw [h2] at h
  simpa [zerosIns] using h

/-- Block g is a row of n elements' cells; the first k are those of f. -/
def OwnIns (w : World) (g n k : Nat) (f : Nat → Ins) : Prop :=
  ∃ F, w.rowIs g 41 (n * 3) F ∧ ∀ i, i < k → F (i * 3) = .int .i64 (f i).op ∧ F (i * 3 + 1) = .string (f i).s ∧ F (i * 3 + 2) = .int .i64 (f i).n
theorem ownIns_start (w : World) (n : Nat) (f : Nat → Ins) : OwnIns (w.alloc (.cells (zerosIns n) 41)) w.heap.size n 0 f := by
  have hz : (zerosIns n).size = n * 3 := size_madeCells _ _
  have h := World.rowIs_alloc w (zerosIns n) 41 (fun i => (zerosIns n)[i]?.getD undef) (fun i hi => by rw [Array.getElem?_eq_getElem hi]; rfl)
  rw [hz] at h
  exact ⟨_, h, fun i hi => absurd hi (Nat.not_lt_zero _)⟩
theorem OwnIns.step {w : World} {g n k : Nat} {f : Nat → Ins} (h : OwnIns w g n k f) :
    OwnIns (((w.setCell ⟨g, k * 3, none⟩ (.int .i64 (f k).op)).setCell ⟨g, k * 3 + 1, none⟩ (.string (f k).s)).setCell ⟨g, k * 3 + 2, none⟩ (.int .i64 (f k).n)) g n (k + 1) f := by
  obtain ⟨F, hr, hF⟩ := h
  refine ⟨_, (((hr.set _ _).set _ _).set _ _), fun i hi => ?_⟩
  by_cases e : i = k
  · subst e
    exact ⟨by simp, by simp, by simp⟩
  · have h := hF i (by omega)
    refine ⟨?_, ?_, ?_⟩
    · show (if _ then _ else if _ then _ else if _ then _ else _) = _
      rw [if_neg (by omega), if_neg (by omega), if_neg (by omega), h.1]
    · show (if _ then _ else if _ then _ else if _ then _ else _) = _
      rw [if_neg (by omega), if_neg (by omega), if_neg (by omega), h.2.1]
    · show (if _ then _ else if _ then _ else if _ then _ else _) = _
      rw [if_neg (by omega), if_neg (by omega), if_neg (by omega), h.2.2]
theorem OwnIns.below {w w' : World} {g n k : Nat} {f : Nat → Ins} {B : Nat} (h : OwnIns w g n k f) (hb : Below B w w') (hB : g < B) : OwnIns w' g n k f := by
  obtain ⟨F, hr, hF⟩ := h
  exact ⟨F, hr.of_block (hb.block g hB), hF⟩
theorem OwnIns.row {w : World} {g n : Nat} {f : Nat → Ins} (h : OwnIns w g n n f) : RowIns w g 0 n f := by
  obtain ⟨F, hr, hF⟩ := h
  refine ⟨hr.lt, fun i hi => ?_⟩
  have h := hF i hi
  refine ⟨?_, ?_, ?_⟩
  · rw [Nat.zero_add, hr.cell (by omega), h.1]
  · rw [Nat.zero_add, hr.cell (by omega), h.2.1]
  · rw [Nat.zero_add, hr.cell (by omega), h.2.2]

end Go.Proofs.YtpefignfaooonaaGreatDoor.Vp

/-
  l1Word: the word and the operand's kind of an instruction.
-/
namespace Go.Proofs.YtpefignfaooonaaGreatDoor.Vp
open Go.RowKit

/-- The word and the operand's kind of an instruction. -/
def word : Int → List UInt8
  | 1 => [108, 105, 116] | 2 => [99, 97, 116] | 3 => [99, 117, 116] | 4 => [114, 101, 115, 116] | 5 => [119, 111, 114, 100] | 6 => [115, 97, 109, 101] | 7 => [100, 117, 112] | 8 => [115, 119, 97, 112] | 9 => [100, 114, 111, 112]
  | 10 => [106, 117, 109, 112] | 11 => [117, 110, 108, 101, 115, 115] | 12 => [97, 115, 107] | 13 => [104, 97, 115] | 14 => [102, 97, 105, 108] | 15 => [101, 110, 100] | _ => []
def kind : Int → Int
  | 1 => 1 | 3 => 2 | 4 => 2 | 5 => 2 | 10 => 3 | 11 => 3 | _ => 0

set_option maxHeartbeats 1000000 in
theorem l1Word_any (op : Int) (w : World) :
    Calls Tryz.prog 33 #[.int .i64 op] w fun e w' => e = .returned (.tuple #[.string ⟨(word op).toArray⟩, .int .i64 (kind op)]) ∧ w' = w := by
  by_cases h : 1 ≤ op ∧ op ≤ 15
  · have hc : op = 1 ∨ op = 2 ∨ op = 3 ∨ op = 4 ∨ op = 5 ∨ op = 6 ∨ op = 7 ∨ op = 8 ∨ op = 9 ∨ op = 10 ∨ op = 11 ∨ op = 12 ∨ op = 13 ∨ op = 14 ∨ op = 15 := by omega
    clear h
    rcases hc with rfl | rfl | rfl | rfl | rfl | rfl | rfl | rfl | rfl | rfl | rfl | rfl | rfl | rfl | rfl
    all_goals
      go_enter Tryz.func33, Tryz.ntmps33
      go_wp2
      go_ret2
      exact ⟨rfl, rfl⟩
  · have hw : word op = [] := by
      unfold word
      split <;> first | omega | rfl
    have hk : kind op = 0 := by
      unfold kind
      split <;> first | omega | rfl
    rw [hw, hk]
    clear hw hk
    rcases (show op < 1 ∨ 15 < op by omega) with h | h
    all_goals
      go_enter Tryz.func33, Tryz.ntmps33
      go_wp2
      go_ret2
      exact ⟨rfl, rfl⟩

end Go.Proofs.YtpefignfaooonaaGreatDoor.Vp

/-
  l1InsOk and validIns: the same test.
-/
namespace Go.Proofs.YtpefignfaooonaaGreatDoor.Vp
open Go.RowKit

def mostText (op : Int) : Int := if op = 1 then 2000 else 0
def mostN (op : Int) : Int := if op = 3 ∨ op = 4 ∨ op = 5 then 2000 else if op = 10 ∨ op = 11 then 200 else 0
def insOk (op : Int) (sz : Nat) (n : Int) : Bool := decide (1 ≤ op ∧ op ≤ 15 ∧ (sz : Int) ≤ mostText op ∧ 0 ≤ n ∧ n ≤ mostN op)


set_option maxHeartbeats 1000000 in
theorem l1InsOk_ne (op : Int) (s : ByteArray) (n : Int) (w : World) (hs : s.size ≤ maxLen) (hz : ¬ s.toList = []) (h0 : 0 < s.size) :
    Calls Tryz.prog 31 #[.agg #[.int .i64 op, .string s, .int .i64 n]] w fun e w' => e = .returned (.bool (insOk op s.size n)) ∧ Below w.heap.size w w' := by
  unfold maxLen at hs
  by_cases h : 1 ≤ op ∧ op ≤ 15
  · have hc : op = 1 ∨ op = 2 ∨ op = 3 ∨ op = 4 ∨ op = 5 ∨ op = 6 ∨ op = 7 ∨ op = 8 ∨ op = 9 ∨ op = 10 ∨ op = 11 ∨ op = 12 ∨ op = 13 ∨ op = 14 ∨ op = 15 := by omega
    clear h
    rcases hc with rfl | rfl | rfl | rfl | rfl | rfl | rfl | rfl | rfl | rfl | rfl | rfl | rfl | rfl | rfl
    all_goals
      go_enter Tryz.func31, Tryz.ntmps31
      go_wp2
      all_goals go_ret
      all_goals refine ⟨ret_bool ?_, (Below.refl _ _).alloc (Nat.le_refl _) _⟩
      all_goals (rw [Bool.eq_iff_iff]; generalize s.size = z at *; simp [insOk, mostText, mostN]; try omega)
  · rcases (show op < 1 ∨ 15 < op by omega) with h | h
    all_goals
      go_enter Tryz.func31, Tryz.ntmps31
      go_wp2
      go_ret
      refine ⟨ret_bool ?_, (Below.refl _ _).alloc (Nat.le_refl _) _⟩
      rw [Bool.eq_iff_iff]; simp [insOk]; omega

set_option maxHeartbeats 1000000 in
theorem l1InsOk_em (op : Int) (n : Int) (w : World) :
    Calls Tryz.prog 31 #[.agg #[.int .i64 op, .string ⟨#[]⟩, .int .i64 n]] w fun e w' => e = .returned (.bool (insOk op 0 n)) ∧ Below w.heap.size w w' := by
  by_cases h : 1 ≤ op ∧ op ≤ 15
  · have hc : op = 1 ∨ op = 2 ∨ op = 3 ∨ op = 4 ∨ op = 5 ∨ op = 6 ∨ op = 7 ∨ op = 8 ∨ op = 9 ∨ op = 10 ∨ op = 11 ∨ op = 12 ∨ op = 13 ∨ op = 14 ∨ op = 15 := by omega
    clear h
    rcases hc with rfl | rfl | rfl | rfl | rfl | rfl | rfl | rfl | rfl | rfl | rfl | rfl | rfl | rfl | rfl
    all_goals
      go_enter Tryz.func31, Tryz.ntmps31
      go_wp2
      all_goals go_ret
      all_goals refine ⟨ret_bool ?_, (Below.refl _ _).alloc (Nat.le_refl _) _⟩
      all_goals (rw [Bool.eq_iff_iff]; simp [insOk, mostText, mostN]; try omega)
  · rcases (show op < 1 ∨ 15 < op by omega) with h | h
    all_goals
      go_enter Tryz.func31, Tryz.ntmps31
      go_wp2
      go_ret
      refine ⟨ret_bool ?_, (Below.refl _ _).alloc (Nat.le_refl _) _⟩
      rw [Bool.eq_iff_iff]; simp [insOk]; omega

theorem l1InsOk_any (op : Int) (s : ByteArray) (n : Int) (w : World) (hs : s.size ≤ maxLen) :
    Calls Tryz.prog 31 #[.agg #[.int .i64 op, .string s, .int .i64 n]] w fun e w' => e = .returned (.bool (insOk op s.size n)) ∧ Below w.heap.size w w' := by
  by_cases h : s.size = 0
  · have e := empty_of_size h
    subst e
    exact l1InsOk_em op n w
  · exact l1InsOk_ne op s n w hs (toList_ne h) (by omega)

end Go.Proofs.YtpefignfaooonaaGreatDoor.Vp
