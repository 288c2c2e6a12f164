/-
  Put together of: PaPgm.
-/
import Derived.Test.YtpefignfaooonaaGreatDoorZG
import Derived.Test.YtpefignfaooonaaGreatDoorZC
import Derived.Test.YtpefignfaooonaaGreatDoorZA
import Derived.Lib.Builder
import Derived.Laws.ResultCell
import Derived.Laws.Rows

/-
  ParseProgram: what is read, line by line; rows of instructions.
-/
namespace Go.Proofs.YtpefignfaooonaaGreatDoor.Vp
open Go.RowKit

def comb (L : List I3) (r : Int × Int × List I3) : Int × Int × List I3 := if r.1 = 0 then (0, 0, L ++ r.2.2) else r
theorem pgm_two (k : Nat) (l l' : List UInt8) (ls : List (List UInt8)) : pgm k (l :: l' :: ls) = match readL l with | none => (2, (k : Int), []) | some i => if (pgm (k + 1) (l' :: ls)).1 = 0 then (0, 0, i :: (pgm (k + 1) (l' :: ls)).2.2) else pgm (k + 1) (l' :: ls) := by
  rw [pgm]
  cases readL l <;> rfl
theorem pgm_one (k : Nat) (l : List UInt8) : pgm k [l] = if l = [] then (0, 0, []) else (2, (k : Int), []) := by rw [pgm]
theorem pgm_zero : ∀ (ls : List (List UInt8)) (k : Nat), (pgm k ls).1 = 0 → pgm k ls = (0, 0, (pgm k ls).2.2)
  | [], k, h => by simp [pgm] at h
  | [l], k, h => by
    rw [pgm_one] at h ⊢
    split
    · rfl
    · rename_i hl
      rw [if_neg hl] at h
      simp at h
  | l :: l' :: ls, k, h => by
    rw [pgm_two] at h ⊢
    cases hr : readL l with
    | none => rw [hr] at h; simp at h
    | some i =>
      rw [hr] at h
      by_cases h0 : (pgm (k + 1) (l' :: ls)).1 = 0
      · simp only [if_pos h0]
      · simp only [if_neg h0] at h
        exact absurd h h0
theorem comb_nil (k : Nat) (ls : List (List UInt8)) : comb [] (pgm k ls) = pgm k ls := by
  unfold comb
  split
  · rename_i h
    rw [List.nil_append]
    exact (pgm_zero ls k h).symm
  · rfl
theorem comb_step {L : List I3} {k : Nat} {l : List UInt8} {ls : List (List UInt8)} {i : I3} (hr : readL l = some i) (hne : ls ≠ []) : comb L (pgm k (l :: ls)) = comb (L ++ [i]) (pgm (k + 1) ls) := by
  obtain ⟨l', ls', rfl⟩ := List.exists_cons_of_ne_nil hne
  rw [pgm_two, hr]
  by_cases h0 : (pgm (k + 1) (l' :: ls')).1 = 0
  · simp only [comb, if_pos h0, if_true, List.append_assoc, List.cons_append, List.nil_append]
  · simp only [comb, if_neg h0]
theorem comb_err {L : List I3} {k : Nat} {l : List UInt8} {ls : List (List UInt8)} (hr : readL l = none) (hne : ls ≠ []) : comb L (pgm k (l :: ls)) = (2, (k : Int), []) := by
  obtain ⟨l', ls', rfl⟩ := List.exists_cons_of_ne_nil hne
  rw [pgm_two, hr]
  rfl
theorem comb_open {L : List I3} {k : Nat} {l : List UInt8} (hne : l ≠ []) : comb L (pgm k [l]) = (2, (k : Int), []) := by
  rw [pgm_one, if_neg hne]
  rfl
theorem comb_end (L : List I3) (k : Nat) : comb L (pgm k [[]]) = (0, 0, L) := by
  rw [pgm_one, if_pos rfl]
  simp [comb]

/-- The cells of instructions. -/
def i3V (i : I3) : List Value := [.int .i64 i.1, .string ⟨i.2.1.toArray⟩, .int .i64 i.2.2]
def i3L (L : List I3) : List Value := L.flatMap i3V
theorem i3L_snoc (L : List I3) (i : I3) : i3L (L ++ [i]) = i3L L ++ i3V i := by simp [i3L]
theorem i3L_len : ∀ L : List I3, (i3L L).length = L.length * 3
  | [] => rfl
  | i :: L => by
    have := i3L_len L
    simp only [i3L, List.flatMap_cons, List.length_append, List.length_cons] at this ⊢
    rw [this]
    simp [i3V]
    omega
theorem three_newP (w : World) (x y z : Value) (t : TypeId) : ∀ j u, [x, y, z][j]? = some u → (w.alloc (.cells #[x, y, z] t)).cell? ((⟨w.heap.size, 0, none⟩ : Addr).add j) = some u := by
  intro j u hj
  match j, hj with
  | 0, hj => simp at hj; subst hj; simp [Addr.add]
  | 1, hj => simp at hj; subst hj; simp [Addr.add]
  | 2, hj => simp at hj; subst hj; simp [Addr.add]
theorem own_setP {w : World} {base e' n R j : Nat} {e : TypeId} {v : Value} {xs : List Value} (h : w.ownsRow base e e' v n xs) (hR : R < base) (u : Value) : (w.setCell ⟨R, j, none⟩ u).ownsRow base e e' v n xs := by
  refine ⟨h.1, ?_⟩
  rcases h.2 with hn | ⟨g, cap, cur, hv, hg, hh, r⟩
  · exact .inl hn
  · refine .inr ⟨g, cap, cur, hv, hg, ?_, r⟩
    have : R ≠ g := by omega
    simp [World.setCell, Array.getElem?_modify, this, hh]

/-- A block that holds one program. -/
def PB (w : World) (b : Nat) (v : Value) : Prop := w.heap[b]? = some (.cells #[v] 24 (0, 0))
theorem PB.lt {w : World} {b : Nat} {v : Value} (h : PB w b v) : b < w.heap.size := (Array.getElem?_eq_some_iff.1 h).1
theorem PB.c0 {w : World} {b : Nat} {v : Value} (h : PB w b v) : w.cell? ⟨b, 0, none⟩ = some v := by rw [Lib.cell_of_heap h]; rfl
theorem PB.fz {w : World} {b : Nat} {v : Value} (h : PB w b v) (j : Nat) : w.frozen? ⟨b, j, none⟩ = false := Lib.frozen_of_heap h j
theorem PB.below {w w' : World} {b B : Nat} {v : Value} (h : PB w b v) (hb : Below B w w') (hB : b < B) : PB w' b v := (hb.block b hB).trans h
theorem PB.set {w : World} {b : Nat} {v : Value} (h : PB w b v) (v' : Value) : PB (w.setCell ⟨b, 0, none⟩ v') b v' := by
  unfold PB at *
  simp [World.setCell, Array.getElem?_modify, h]
theorem PB.other {w : World} {b : Nat} {v : Value} (h : PB w b v) (p : Addr) (hp : p.block ≠ b) (u : Value) : PB (w.setCell p u) b v := by
  unfold PB at *
  simp [World.setCell, Array.getElem?_modify, hp, h]
theorem sizeProgram : (Tryz.prog.info? 24).map (·.size) = some 1 := by kernel_rfl
theorem res_prog {fn : Func} {p u : Tmp} (h : fn.results = #[.cell p 24, .tmp u]) (tmps : Array Value) (w : World) (g : Nat) (v : Value) (hp : tmps.getD p undef = .pointer (some ⟨g, 0, none⟩)) (hC : PB w g v) :
    (results fn tmps).run Tryz.prog w = .ok (.tuple #[.agg #[v], tmps.getD u undef]) w := by
  rw [results_cell_tmp h, hp]
  simp [asAddr, run_loadVar_row w g 24 24 #[v] (0, 0) _ hC Tryz.underlying24 rfl sizeProgram, Result.andThen]

end Go.Proofs.YtpefignfaooonaaGreatDoor.Vp
