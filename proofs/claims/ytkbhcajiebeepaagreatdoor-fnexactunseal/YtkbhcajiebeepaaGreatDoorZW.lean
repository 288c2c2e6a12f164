/-
  Put together of: PaPgm, FpPure.
-/
import Derived.Test.YtkbhcajiebeepaaGreatDoorZN
import Derived.Test.YtkbhcajiebeepaaGreatDoorZJ
import Derived.Test.YtkbhcajiebeepaaGreatDoorZD
import Derived.Lib.Builder
import Derived.Laws.ResultCell
import Derived.Laws.Rows

/-
  ParseProgram: what is read, line by line; rows of instructions.
-/
namespace Go.Proofs.YtkbhcajiebeepaaGreatDoor.Vp
open Go.RowKit

def comb (L : List I3) (r : Int × Int × List I3) : Int × Int × List I3 := if r.1 = 0 then (0, 0, L ++ r.2.2) else r
theorem pgm_two (k : Nat) (l l' : List UInt8) (ls : List (List UInt8)) : pgm k (l :: l' :: ls) = match readL l with | none => (2, (k : Int), []) | some i => if (pgm (k + 1) (l' :: ls)).1 = 0 then (0, 0, i :: (pgm (k + 1) (l' :: ls)).2.2) else pgm (k + 1) (l' :: ls) := by
  rw [pgm]
  cases readL l <;> rfl
theorem pgm_one (k : Nat) (l : List UInt8) : pgm k [l] = if l = [] then (0, 0, []) else (2, (k : Int), []) := by rw [pgm]
theorem pgm_zero : ∀ (ls : List (List UInt8)) (k : Nat), (pgm k ls).1 = 0 → pgm k ls = (0, 0, (pgm k ls).2.2)
  | [], k, h => by simp [pgm] at h
  | [l], k, h => by
    rw [pgm_one] at h ⊢
    split
    · rfl
    · rename_i hl
      rw [if_neg hl] at h
      simp at h
  | l :: l' :: ls, k, h => by
    rw [pgm_two] at h ⊢
    cases hr : readL l with
    | none => rw [hr] at h; simp at h
    | some i =>
      rw [hr] at h
      by_cases h0 : (pgm (k + 1) (l' :: ls)).1 = 0
      · simp only [if_pos h0]
      · simp only [if_neg h0] at h
        exact absurd h h0
theorem comb_nil (k : Nat) (ls : List (List UInt8)) : comb [] (pgm k ls) = pgm k ls := by
  unfold comb
  split
  · rename_i h
    rw [List.nil_append]
    exact (pgm_zero ls k h).symm
  · rfl
theorem comb_step {L : List I3} {k : Nat} {l : List UInt8} {ls : List (List UInt8)} {i : I3} (hr : readL l = some i) (hne : ls ≠ []) : comb L (pgm k (l :: ls)) = comb (L ++ [i]) (pgm (k + 1) ls) := by
  obtain ⟨l', ls', rfl⟩ := List.exists_cons_of_ne_nil hne
  rw [pgm_two, hr]
  by_cases h0 : (pgm (k + 1) (l' :: ls')).1 = 0
  · simp only [comb, if_pos h0, if_true, List.append_assoc, List.cons_append, List.nil_append]
  · simp only [comb, if_neg h0]
theorem comb_err {L : List I3} {k : Nat} {l : List UInt8} {ls : List (List UInt8)} (hr : readL l = none) (hne : ls ≠ []) : comb L (pgm k (l :: ls)) = (2, (k : Int), []) := by
  obtain ⟨l', ls', rfl⟩ := List.exists_cons_of_ne_nil hne
  rw [pgm_two, hr]
  rfl
theorem comb_open {L : List I3} {k : Nat} {l : List UInt8} (hne : l ≠ []) : comb L (pgm k [l]) = (2, (k : Int), []) := by
  rw [pgm_one, if_neg hne]
  rfl
theorem comb_end (L : List I3) (k : Nat) : comb L (pgm k [[]]) = (0, 0, L) := by
  rw [pgm_one, if_pos rfl]
  simp [comb]

/-- The cells of instructions. -/
def i3V (i : I3) : List Value := [.int .i64 i.1, .string ⟨i.2.1.toArray⟩, .int .i64 i.2.2]
def i3L (L : List I3) : List Value := L.flatMap i3V
theorem i3L_snoc (L : List I3) (i : I3) : i3L (L ++ [i]) = i3L L ++ i3V i := by simp [i3L]
theorem i3L_len : ∀ L : List I3, (i3L L).length = L.length * 3
  | [] => rfl
  | i :: L => by
    have := i3L_len L
    simp only [i3L, List.flatMap_cons, List.length_append, List.length_cons] at this ⊢
    rw [this]
    simp [i3V]
    omega
theorem three_newP (w : World) (x y z : Value) (t : TypeId) : ∀ j u, [x, y, z][j]? = some u → (w.alloc (.cells #[x, y, z] t)).cell? ((⟨w.heap.size, 0, none⟩ : Addr).add j) = some u := by
  intro j u hj
  match j, hj with
  | 0, hj => simp at hj; subst hj; simp [Addr.add]
  | 1, hj => simp at hj; subst hj; simp [Addr.add]
  | 2, hj => simp at hj; subst hj; simp [Addr.add]
theorem own_setP {w : World} {base e' n R j : Nat} {e : TypeId} {v : Value} {xs : List Value} (h : w.ownsRow base e e' v n xs) (hR : R < base) (u : Value) : (w.setCell ⟨R, j, none⟩ u).ownsRow base e e' v n xs := by
  refine ⟨h.1, ?_⟩
  rcases h.2 with hn | ⟨g, cap, cur, hv, hg, hh, r⟩
  · exact .inl hn
  · refine .inr ⟨g, cap, cur, hv, hg, ?_, r⟩
    have : R ≠ g := by omega
    simp [World.setCell, Array.getElem?_modify, this, hh]

/-- A block that holds one program. -/
def PB (w : World) (b : Nat) (v : Value) : Prop := w.heap[b]? = some (.cells #[v] 48 (0, 0))
theorem PB.lt {w : World} {b : Nat} {v : Value} (h : PB w b v) : b < w.heap.size := (Array.getElem?_eq_some_iff.1 h).1
theorem PB.c0 {w : World} {b : Nat} {v : Value} (h : PB w b v) : w.cell? ⟨b, 0, none⟩ = some v := by rw [Lib.cell_of_heap h]; rfl
theorem PB.fz {w : World} {b : Nat} {v : Value} (h : PB w b v) (j : Nat) : w.frozen? ⟨b, j, none⟩ = false := Lib.frozen_of_heap h j
theorem PB.below {w w' : World} {b B : Nat} {v : Value} (h : PB w b v) (hb : Below B w w') (hB : b < B) : PB w' b v := (hb.block b hB).trans h
theorem PB.set {w : World} {b : Nat} {v : Value} (h : PB w b v) (v' : Value) : PB (w.setCell ⟨b, 0, none⟩ v') b v' := by
  unfold PB at *
  simp [World.setCell, Array.getElem?_modify, h]
theorem PB.other {w : World} {b : Nat} {v : Value} (h : PB w b v) (p : Addr) (hp : p.block ≠ b) (u : Value) : PB (w.setCell p u) b v := by
  unfold PB at *
  simp [World.setCell, Array.getElem?_modify, hp, h]
theorem sizeProgram : (Tryz.prog.info? 48).map (·.size) = some 1 := by kernel_rfl
theorem res_prog {fn : Func} {p u : Tmp} (h : fn.results = #[.cell p 48, .tmp u]) (tmps : Array Value) (w : World) (g : Nat) (v : Value) (hp : tmps.getD p undef = .pointer (some ⟨g, 0, none⟩)) (hC : PB w g v) :
    (results fn tmps).run Tryz.prog w = .ok (.tuple #[.agg #[v], tmps.getD u undef]) w := by
  rw [results_cell_tmp h, hp]
  simp [asAddr, run_loadVar_row w g 48 48 #[v] (0, 0) _ hC Tryz.underlying48 rfl sizeProgram, Result.andThen]

end Go.Proofs.YtkbhcajiebeepaaGreatDoor.Vp

/-
  FnProgram, pure: what is written is read again.
-/
namespace Go.Proofs.YtkbhcajiebeepaaGreatDoor.Vp
open Go.RowKit

/-- What is written of instructions. -/
def linesB (L : List I3) : List UInt8 := L.flatMap fun i => lineB i.1 i.2.1 i.2.2 ++ [10]
theorem enc_no10 (c : UInt8) : (10 : UInt8) ∉ enc c := by
  refine u8_all (p := fun c => (10 : UInt8) ∉ enc c) ?_ c
  decide +kernel
theorem word_no10 {k : Int} (h : 1 ≤ k ∧ k ≤ 15) : (10 : UInt8) ∉ word k := by
  rcases op_cases h with rfl | rfl | rfl | rfl | rfl | rfl | rfl | rfl | rfl | rfl | rfl | rfl | rfl | rfl | rfl <;> decide
theorem dec_no10 : ∀ n : Nat, (10 : UInt8) ∉ Lib.decDigits n := by
  intro n
  induction n using Nat.strongRecOn with
  | ind n ih =>
    rw [Lib.decDigits]
    split
    · rename_i h
      intro h2
      have h3 := List.mem_singleton.1 h2
      have h4 := congrArg UInt8.toNat h3
      rw [UInt8.toNat_ofNat'] at h4
      have h5 : (10 : UInt8).toNat = 10 := rfl
      omega
    · rename_i h
      intro h2
      rcases List.mem_append.1 h2 with h2 | h2
      · exact ih (n / 10) (by omega) h2
      · have h3 := List.mem_singleton.1 h2
        have h4 := congrArg UInt8.toNat h3
        rw [UInt8.toNat_ofNat'] at h4
        have h5 : (10 : UInt8).toNat = 10 := rfl
        omega
theorem line_no10 {op : Int} {s : List UInt8} {n : Int} (h : insOk op s.length n = true) : (10 : UInt8) ∉ lineB op s n := by
  obtain ⟨h1, _⟩ := ins_of h
  have hw := word_no10 h1
  unfold lineB
  intro hm
  split at hm
  · rw [quoteB_eq] at hm
    rcases List.mem_append.1 hm with hm | hm
    · exact hw hm
    · simp only [List.mem_cons, List.mem_append, List.mem_flatMap, List.not_mem_nil, or_false] at hm
      rcases hm with hm | (hm | ⟨c, _, hm⟩) | hm
      · exact absurd hm (by decide)
      · exact absurd hm (by decide)
      · exact enc_no10 c hm
      · exact absurd hm (by decide)
  · split at hm
    · exact hw hm
    · rcases List.mem_append.1 hm with hm | hm
      · exact hw hm
      · rcases List.mem_cons.1 hm with hm | hm
        · exact absurd hm (by decide)
        · exact dec_no10 _ hm
theorem line_ne {op : Int} {s : List UInt8} {n : Int} (h : insOk op s.length n = true) : lineB op s n ≠ [] := by
  obtain ⟨h1, _⟩ := ins_of h
  have hw : word op ≠ [] := by rcases op_cases h1 with rfl | rfl | rfl | rfl | rfl | rfl | rfl | rfl | rfl | rfl | rfl | rfl | rfl | rfl | rfl <;> decide
  unfold lineB
  split
  · simp
  · split
    · exact hw
    · simp
def AllOk (L : List I3) : Prop := ∀ i ∈ L, insOk i.1 i.2.1.length i.2.2 = true
theorem read_back {i : I3} (h : insOk i.1 i.2.1.length i.2.2 = true) : readL (lineB i.1 i.2.1 i.2.2) = some i := readL_some ⟨h, rfl⟩
theorem lines_of (L : List I3) (r : List UInt8) (hL : AllOk L) : linesL (linesB L ++ r) = L.map (fun i => lineB i.1 i.2.1 i.2.2) ++ linesL r := by
  induction L with
  | nil => rfl
  | cons i L ih =>
    have h1 := line_no10 (hL i (by simp))
    have ih := ih (fun j hj => hL j (by simp [hj]))
    rw [linesB, List.flatMap_cons, List.append_assoc, List.append_assoc, List.singleton_append, linesL_at _ h1]
    rw [linesB] at ih
    rw [ih]
    rfl
theorem pgm_of (L : List I3) (hL : AllOk L) (M : List I3) (k : Nat) (ls : List (List UInt8)) (hne : ls ≠ []) : comb M (pgm k (L.map (fun i => lineB i.1 i.2.1 i.2.2) ++ ls)) = comb (M ++ L) (pgm (k + L.length) ls) := by
  induction L generalizing M k with
  | nil => simp
  | cons i L ih =>
    rw [List.map_cons, List.cons_append, comb_step (read_back (hL i (by simp))) (by simp [hne]), ih (fun j hj => hL j (by simp [hj]))]
    rw [List.append_assoc, List.length_cons, show k + 1 + L.length = k + (L.length + 1) by omega]
    rfl
/-- What is written is read. -/
theorem round_trip (L : List I3) (hL : AllOk L) : pgm 0 (linesL (linesB L)) = (0, 0, L) := by
  have h := lines_of L [] hL
  rw [List.append_nil] at h
  rw [← comb_nil, h, pgm_of L hL [] 0 (linesL []) (linesL_ne [])]
  exact comb_end L _
/-- With its last newline gone it is not. -/
theorem cut_short (L : List I3) (i : I3) (hL : AllOk (L ++ [i])) : pgm 0 (linesL (linesB L ++ lineB i.1 i.2.1 i.2.2)) = (2, (L.length : Int), []) := by
  have hi := hL i (by simp)
  have hL' : AllOk L := fun j hj => hL j (by simp [hj])
  rw [← comb_nil, lines_of L _ hL', linesL_no (line_no10 hi), pgm_of L hL' [] 0 _ (by simp), comb_open (line_ne hi)]
  simp
theorem linesB_snoc (L : List I3) (i : I3) : linesB (L ++ [i]) = linesB L ++ lineB i.1 i.2.1 i.2.2 ++ [10] := by simp [linesB]

end Go.Proofs.YtkbhcajiebeepaaGreatDoor.Vp
