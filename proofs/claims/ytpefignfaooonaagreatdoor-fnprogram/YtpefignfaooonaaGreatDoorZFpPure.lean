/-
  FnProgram, pure: what is written is read again.
-/
import Derived.Test.YtpefignfaooonaaGreatDoorZH
namespace Go.Proofs.YtpefignfaooonaaGreatDoor.Vp
open Go.RowKit

/-- What is written of instructions. -/
def linesB (L : List I3) : List UInt8 := L.flatMap fun i => lineB i.1 i.2.1 i.2.2 ++ [10]
theorem enc_no10 (c : UInt8) : (10 : UInt8) ∉ enc c := by
  refine u8_all (p := fun c => (10 : UInt8) ∉ enc c) ?_ c
  decide +kernel
theorem word_no10 {k : Int} (h : 1 ≤ k ∧ k ≤ 15) : (10 : UInt8) ∉ word k := by
  rcases op_cases h with rfl | rfl | rfl | rfl | rfl | rfl | rfl | rfl | rfl | rfl | rfl | rfl | rfl | rfl | rfl <;> decide
theorem dec_no10 : ∀ n : Nat, (10 : UInt8) ∉ Lib.decDigits n := by
  intro n
  induction n using Nat.strongRecOn with
  | ind n ih =>
    rw [Lib.decDigits]
    split
    · rename_i h
      intro h2
      have h3 := List.mem_singleton.1 h2
      have h4 := congrArg UInt8.toNat h3
      rw [UInt8.toNat_ofNat'] at h4
      have h5 : (10 : UInt8).toNat = 10 := rfl
      omega
    · rename_i h
      intro h2
      rcases List.mem_append.1 h2 with h2 | h2
      · exact ih (n / 10) (by omega) h2
      · have h3 := List.mem_singleton.1 h2
        have h4 := congrArg UInt8.toNat h3
        rw [UInt8.toNat_ofNat'] at h4
        have h5 : (10 : UInt8).toNat = 10 := rfl
        omega
theorem line_no10 {op : Int} {s : List UInt8} {n : Int} (h : insOk op s.length n = true) : (10 : UInt8) ∉ lineB op s n := by
  obtain ⟨h1, _⟩ := ins_of h
  have hw := word_no10 h1
  unfold lineB
  intro hm
  split at hm
  · rw [quoteB_eq] at hm
    rcases List.mem_append.1 hm with hm | hm
    · exact hw hm
    · simp only [List.mem_cons, List.mem_append, List.mem_flatMap, List.not_mem_nil, or_false] at hm
      rcases hm with hm | (hm | ⟨c, _, hm⟩) | hm
      · exact absurd hm (by decide)
      · exact absurd hm (by decide)
      · exact enc_no10 c hm
      · exact absurd hm (by decide)
  · split at hm
    · exact hw hm
    · rcases List.mem_append.1 hm with hm | hm
      · exact hw hm
      · rcases List.mem_cons.1 hm with hm | hm
        · exact absurd hm (by decide)
        · exact dec_no10 _ hm
theorem line_ne {op : Int} {s : List UInt8} {n : Int} (h : insOk op s.length n = true) : lineB op s n ≠ [] := by
  obtain ⟨h1, _⟩ := ins_of h
  have hw : word op ≠ [] := by rcases op_cases h1 with rfl | rfl | rfl | rfl | rfl | rfl | rfl | rfl | rfl | rfl | rfl | rfl | rfl | rfl | rfl <;> decide
  unfold lineB
  split
  · simp
  · split
    · exact hw
    · simp
def AllOk (L : List I3) : Prop := ∀ i ∈ L, insOk i.1 i.2.1.length i.2.2 = true
theorem read_back {i : I3} (h : insOk i.1 i.2.1.length i.2.2 = true) : readL (lineB i.1 i.2.1 i.2.2) = some i := readL_some ⟨h, rfl⟩
theorem lines_of (L : List I3) (r : List UInt8) (hL : AllOk L) : linesL (linesB L ++ r) = L.map (fun i => lineB i.1 i.2.1 i.2.2) ++ linesL r := by
  induction L with
  | nil => rfl
  | cons i L ih =>
    have h1 := line_no10 (hL i (by simp))
    have ih := ih (fun j hj => hL j (by simp [hj]))
    rw [linesB, List.flatMap_cons, List.append_assoc, List.append_assoc, List.singleton_append, linesL_at _ h1]
    rw [linesB] at ih
    rw [ih]
    rfl
theorem pgm_of (L : List I3) (hL : AllOk L) (M : List I3) (k : Nat) (ls : List (List UInt8)) (hne : ls ≠ []) : comb M (pgm k (L.map (fun i => lineB i.1 i.2.1 i.2.2) ++ ls)) = comb (M ++ L) (pgm (k + L.length) ls) := by
  induction L generalizing M k with
  | nil => simp
  | cons i L ih =>
    rw [List.map_cons, List.cons_append, comb_step (read_back (hL i (by simp))) (by simp [hne]), ih (fun j hj => hL j (by simp [hj]))]
    rw [List.append_assoc, List.length_cons, show k + 1 + L.length = k + (L.length + 1) by omega]
    rfl
/-- What is written is read. -/
theorem round_trip (L : List I3) (hL : AllOk L) : pgm 0 (linesL (linesB L)) = (0, 0, L) := by
  have h := lines_of L [] hL
  rw [List.append_nil] at h
  rw [← comb_nil, h, pgm_of L hL [] 0 (linesL []) (linesL_ne [])]
  exact comb_end L _
/-- With its last newline gone it is not. -/
theorem cut_short (L : List I3) (i : I3) (hL : AllOk (L ++ [i])) : pgm 0 (linesL (linesB L ++ lineB i.1 i.2.1 i.2.2)) = (2, (L.length : Int), []) := by
  have hi := hL i (by simp)
  have hL' : AllOk L := fun j hj => hL j (by simp [hj])
  rw [← comb_nil, lines_of L _ hL', linesL_no (line_no10 hi), pgm_of L hL' [] 0 _ (by simp), comb_open (line_ne hi)]
  simp
theorem linesB_snoc (L : List I3) (i : I3) : linesB (L ++ [i]) = linesB L ++ lineB i.1 i.2.1 i.2.2 ++ [10] := by simp [linesB]

end Go.Proofs.YtpefignfaooonaaGreatDoor.Vp
