/-
  Put together of: TePure.
-/
import Derived.Test.YtkgddbcjmejfaaaGreatDoorZN
import Derived.Test.YtkgddbcjmejfaaaGreatDoorZI
import Derived.Test.YtkgddbcjmejfaaaGreatDoorZQ

/-
  What Texts answers.
-/
namespace Go.Proofs.YtkgddbcjmejfaaaGreatDoor.Vp
open Go.RowKit Go.Sort

/-- the form of the result that a deed tells. -/
def resC (x : Deed) : Int := if x.kind = 2 then 4 else x.code
def resT (x : Deed) : ByteArray := if x.kind = 2 then x.name else x.text
def txt (x : Deed) : ByteArray := formT (resC x) (resT x) 0
theorem form_size (c : Int) (t : ByteArray) (n : Nat) : (formT c t n).size ≤ 2002 := by
  unfold formT
  split
  · rename_i h
    obtain ⟨k, rfl⟩ := Int.eq_ofNat_of_zero_le h.1
    have := dec1s (k := k) (by omega)
    simp only [ByteArray.size_append, Int.toNat_natCast]
    rw [this]
    have h2 : (⟨#[58]⟩ : ByteArray).size = 1 := rfl
    rw [h2]
    omega
  · show 0 ≤ 2002
    omega
theorem txt_size (x : Deed) : (txt x).size ≤ maxLen := by
  have := form_size (resC x) (resT x) 0
  unfold txt maxLen
  omega
/-- the texts of the first k deeds, put into a list. -/
def dtxL (acc : List (List UInt8)) (f : Nat → Deed) : Nat → List (List UInt8)
  | 0 => acc
  | k + 1 => lput (dtxL acc f k) (txt (f k)).toList
def texL (F : Nat → Acc) : Nat → List (List UInt8)
  | 0 => []
  | k + 1 => if accOk (F k).f (F k).n = true then dtxL (texL F k) (F k).f (F k).n else texL F k
def texts (F : Nat → Acc) (m : Nat) : List (List UInt8) := if 50 < m then [] else texL F m
theorem dtxL_asc {acc : List (List UInt8)} (h : acc.Pairwise (· < ·)) (f : Nat → Deed) (k : Nat) : (dtxL acc f k).Pairwise (· < ·) := by
  induction k with
  | zero => exact h
  | succ k ih => exact asc_lput ih _
theorem dtxL_len (acc : List (List UInt8)) (f : Nat → Deed) (k : Nat) : (dtxL acc f k).length ≤ acc.length + k := by
  induction k with
  | zero => exact Nat.le_refl _
  | succ k ih =>
    have := lput_len (dtxL acc f k) (txt (f k)).toList
    rw [dtxL]
    omega
theorem texL_asc (F : Nat → Acc) (k : Nat) : (texL F k).Pairwise (· < ·) := by
  induction k with
  | zero => exact List.Pairwise.nil
  | succ k ih =>
    rw [texL]
    split
    · exact dtxL_asc ih _ _
    · exact ih
theorem texL_len (F : Nat → Acc) (k : Nat) : (texL F k).length ≤ k * 400 := by
  induction k with
  | zero => exact Nat.le_refl _
  | succ k ih =>
    rw [texL]
    split
    · rename_i h
      have h1 := accOk_n h
      have h2 := dtxL_len (texL F k) (F k).f (F k).n
      omega
    · exact Nat.le_trans ih (Nat.mul_le_mul_right 400 (Nat.le_succ k))
theorem texts_len (F : Nat → Acc) (m : Nat) : (texts F m).length ≤ 1048576 := by
  unfold texts
  split
  · exact Nat.zero_le _
  · have := texL_len F m
    omega
/-- a row of accounts as it was copied. -/
def AccE (w : World) (b m : Nat) (F : Nat → Acc) : Prop := b < w.heap.size ∧ ∀ i, i < m → ∃ a0, w.cell? ⟨b, i, none⟩ = some (.slice a0 (F i).n (F i).n) ∧ SlDeed w a0 (F i).n (F i).f
theorem AccE.below {w w' : World} {b m B : Nat} {F : Nat → Acc} (h : AccE w b m F) (hb : Below B w w') (hB : w.heap.size ≤ B) : AccE w' b m F := by
  refine ⟨Nat.lt_of_lt_of_le h.1 hb.size, fun i hi => ?_⟩
  obtain ⟨a0, h1, h2⟩ := h.2 i hi
  exact ⟨a0, (hb.cell (p := ⟨b, i, none⟩) (Nat.lt_of_lt_of_le h.1 hB)).trans h1, h2.below hb hB⟩
theorem OwnAcc.accE {w : World} {g m N : Nat} {F : Nat → Acc} {V : Nat → Value} {G H : Nat → Nat} (h : OwnAcc w g m m N F V G H) : AccE w g m F :=
  ⟨h.row.lt, fun i hi => ⟨_, by rw [h.row.cell hi, h.cell i hi], (h.own i hi).row.sl⟩⟩

end Go.Proofs.YtkgddbcjmejfaaaGreatDoor.Vp
