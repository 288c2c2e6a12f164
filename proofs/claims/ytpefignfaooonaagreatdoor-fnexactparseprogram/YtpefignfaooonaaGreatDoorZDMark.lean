/-
  markText: a mark's text; what marking leaves.
-/
import Derived.Test.YtpefignfaooonaaGreatDoorZA
import Derived.Lib.ItoaNum
import Derived.Lib.ItoaLen
import Derived.Lib.ItoaMem
namespace Go.Proofs.YtpefignfaooonaaGreatDoor.Vp
open Go.RowKit

/-- The text of a mark. -/
def mkT (k : Int) : ByteArray := ⟨(109 :: Lib.decDigits k.toNat).toArray⟩
/-- A decimal digit. -/
def mdig (n : Nat) : UInt8 := UInt8.ofNat (48 + n)
theorem mdigit (n : Nat) (h : n < 10) : (48 + (n : Int)) = (mdig n).toNat := by
  unfold mdig
  rw [UInt8.toNat_ofNat']
  omega
theorem mconv_one (x : Int) (b : UInt8) (h : x = b.toNat) (w : World) (g : Nat) (hc : w.cell? ⟨g, 0, none⟩ = some (.int .u8 x)) : (convert 33 9 (.slice (some ⟨g, 0, none⟩) 1 1)).run Tryz.prog w = .ok (.string ⟨#[b]⟩) w := by
  refine run_convert_bytes_back _ 33 9 5 ⟨g, 0, none⟩ 1 [b] Tryz.underlying33 Tryz.underlying5 Tryz.underlying9 ?_
  intro j hj
  obtain rfl : j = 0 := by simpa using hj
  simp [Addr.add, hc, h]
/-- The digits, none for 0. -/
def mdec (m : Nat) : List UInt8 := if m = 0 then [] else Lib.decDigits m
theorem mdec_snoc {m : Nat} (h : 0 < m) : mdec m = mdec (m / 10) ++ [mdig (m % 10)] := by
  unfold mdec
  rw [if_neg (by omega)]
  by_cases h1 : m < 10
  · rw [Lib.decDigits_one h1, if_pos (by omega), show m % 10 = m by omega]
    rfl
  · rw [Lib.decDigits, dif_neg h1, if_neg (by omega)]
    rfl
theorem dec_len64 (n : Nat) (h : n ≤ 9223372036854775807) : (Lib.decDigits n).length ≤ 21 := by rw [← Lib.itoa_nonneg]; exact Lib.itoa_length_le _ (by omega) (by omega)

theorem cat_one (b : UInt8) (l : List UInt8) : (⟨#[b]⟩ : ByteArray) ++ ⟨l.toArray⟩ = ⟨(b :: l).toArray⟩ := by
  apply ByteArray.ext
  simp

set_option maxHeartbeats 1000000 in
theorem markText_any (n : Nat) (w : World) (h1 : 1 ≤ n) (h2 : n ≤ 9223372036854775807) :
    Calls Tryz.prog 42 #[.int .i64 n] w fun e w' => e = .returned (.string (mkT n)) ∧ Below w.heap.size w w' := by
  have HL := hide (dec_len64 n h2)
  have hp : decide ((n : Int) ≤ 0) = false := by simp; omega
  have hp2 : 0 < (n : Int) := by omega
  go_enter Tryz.func42, Tryz.ntmps42
  go_wp2
  go_loopw [0, 3] (fun i v wr => ∃ (m : Nat) (l : List UInt8), i = .int .i64 m ∧ m ≤ n ∧ v = .string ⟨l.toArray⟩ ∧ Hid (Lib.decDigits n = mdec m ++ l) ∧ Below w.heap.size w wr) (fun i _ _ => (intOf i).toNat)
  case atStart => exact ⟨n, [], rfl, Nat.le_refl _, rfl, by show Lib.decDigits n = mdec n ++ []; simp [mdec]; intro h; omega, Below.refl _ _⟩
  case round =>
    obtain ⟨m, l, rfl, hm, rfl, hd, hB⟩ := hrel
    have HB := hide hB
    have hsz : w.heap.size ≤ wr.heap.size := hB.size
    clear hB
    have hll : l.length ≤ 21 := by
      have h3 := HL.out
      rw [hd.out, List.length_append] at h3
      omega
    by_cases hlt : 0 < m
    · have hlt' : 0 < (m : Int) := by omega
      have hcv := mconv_one (48 + (m : Int) % 10) (mdig (m % 10)) (by have := mdigit (m % 10) (by omega); omega)
      go_wp2
      exact ⟨⟨m / 10, mdig (m % 10) :: l, by rw [Int.natCast_ediv]; rfl, by omega, by rw [cat_one], by
        show Lib.decDigits n = mdec (m / 10) ++ (mdig (m % 10) :: l)
        rw [hd.out, mdec_snoc hlt, List.append_assoc]
        rfl, HB.out.alloc hsz _⟩, by simp [intOf]; omega⟩
    · have e : m = 0 := by omega
      subst e
      go_wp2
      all_goals go_ret
      refine ⟨ret_str ?_, HB.out⟩
      have hl : l = Lib.decDigits n := by
        have h3 := hd.out
        simpa [mdec] using h3.symm
      rw [hl]
      apply ByteArray.ext
      simp [mkT]

theorem markText_int (x : Int) (w : World) (h1 : 1 ≤ x) (h2 : x ≤ 9223372036854775807) :
    Calls Tryz.prog 42 #[.int .i64 x] w fun e w' => e = .returned (.string (mkT x)) ∧ Below w.heap.size w w' := by
  obtain ⟨n, rfl⟩ := Int.eq_ofNat_of_zero_le (show 0 ≤ x by omega)
  exact markText_any n w (by omega) (by omega)

/-- Blocks outside lo .. hi - 1 stand as they stood. -/
structure Within (lo hi : Nat) (w w' : World) : Prop where
  os : w'.os = w.os
  tape : w'.tape = w.tape
  output : w'.output = w.output
  size : w.heap.size ≤ w'.heap.size
  block : ∀ k, k < w.heap.size → k < lo ∨ hi ≤ k → w'.heap[k]? = w.heap[k]?
theorem Within.refl (lo hi : Nat) (w : World) : Within lo hi w w := ⟨rfl, rfl, rfl, Nat.le_refl _, fun _ _ _ => rfl⟩
theorem Within.trans {lo hi : Nat} {a b c : World} (h : Within lo hi a b) (k : Within lo hi b c) : Within lo hi a c :=
  ⟨k.os.trans h.os, k.tape.trans h.tape, k.output.trans h.output, Nat.le_trans h.size k.size, fun i hi ho => (k.block i (Nat.lt_of_lt_of_le hi h.size) ho).trans (h.block i hi ho)⟩
theorem Within.of_below {lo hi B : Nat} {w w' : World} (h : Below B w w') (hB : w.heap.size ≤ B) : Within lo hi w w' :=
  ⟨h.os, h.tape, h.output, h.size, fun i hi _ => h.block i (Nat.lt_of_lt_of_le hi hB)⟩
theorem Within.below {lo hi B : Nat} {a w w' : World} (h : Within lo hi a w) (hb : Below B w w') (hB : w.heap.size ≤ B) : Within lo hi a w' := h.trans (Within.of_below hb hB)
theorem Within.setCell {lo hi : Nat} {a w : World} (h : Within lo hi a w) {p : Addr} (h1 : lo ≤ p.block) (h2 : p.block < hi) (v : Value) : Within lo hi a (w.setCell p v) :=
  h.trans ⟨rfl, rfl, rfl, by simp [World.setCell], fun k _ ho => Below.heap_setCell _ _ _ _ (by omega)⟩
theorem Within.mono {lo hi lo' hi' : Nat} {w w' : World} (h : Within lo hi w w') (h1 : lo' ≤ lo) (h2 : hi ≤ hi') : Within lo' hi' w w' :=
  ⟨h.os, h.tape, h.output, h.size, fun k hk ho => h.block k hk (by omega)⟩
theorem Within.toBelow {lo hi : Nat} {w w' : World} (h : Within lo hi w w') (hl : lo ≤ w.heap.size) : Below lo w w' :=
  ⟨h.os, h.tape, h.output, h.size, fun k hk => h.block k (by omega) (.inl hk)⟩

/-- The m cells from off on in block b: they are there, none frozen. -/
def Cells (w : World) (b off m : Nat) (F : Nat → Value) : Prop := b < w.heap.size ∧ ∀ j, j < m → w.cell? ⟨b, off + j, none⟩ = some (F j) ∧ w.frozen? ⟨b, off + j, none⟩ = false
theorem Cells.below {w w' : World} {B b off m : Nat} {F : Nat → Value} (h : Cells w b off m F) (hb : Below B w w') (hB : b < B) : Cells w' b off m F :=
  ⟨Nat.lt_of_lt_of_le h.1 hb.size, fun j hj => ⟨(hb.cell (p := ⟨b, _, none⟩) hB).trans (h.2 j hj).1, (hb.frozen (p := ⟨b, _, none⟩) hB).trans (h.2 j hj).2⟩⟩
theorem Cells.set {w : World} {b off m : Nat} {F : Nat → Value} (h : Cells w b off m F) (j : Nat) (hj : j < m) (v : Value) : Cells (w.setCell ⟨b, off + j, none⟩ v) b off m (fun x => if x = j then v else F x) := by
  refine ⟨by simpa using h.1, fun x hx => ⟨?_, ?_⟩⟩
  · by_cases e : x = j
    · subst e
      exact (World.cell?_setCell_same' _ _ _ (by rw [(h.2 x hx).1]; rfl)).trans (by simp)
    · have hne : (⟨b, off + j, none⟩ : Addr) ≠ ⟨b, off + x, none⟩ := by
        intro q
        exact e (by simpa using q.symm)
      exact (World.cell?_setCell_other _ _ _ _ hne).trans ((h.2 x hx).1.trans (by simp [e]))
  · have := (h.2 x hx).2
    simpa using this
theorem Cells.congr {w : World} {b off m : Nat} {F G : Nat → Value} (h : Cells w b off m F) (e : ∀ j, j < m → F j = G j) : Cells w b off m G :=
  ⟨h.1, fun j hj => by rw [← e j hj]; exact h.2 j hj⟩

end Go.Proofs.YtpefignfaooonaaGreatDoor.Vp
