/-
  Cut's answer marked and read again.
-/
import Derived.Test.YtkikpcklccdihaaDoorZCuImpl
import Derived.Test.YtkikpcklccdihaaDoorZHDeed
namespace Go.Proofs.YtkikpcklccdihaaDoor.Vp
open Go.RowKit Go.Proofs.YtkikpcklccdihaaDoor.Ca

/-- Marked from 1 up to q. -/
def Mk (w : World) (a : Option Addr) (R : List DR) (q : Nat) : Prop :=
  (R.length = 0 ∧ q = 1) ∨ ∃ g, a = some ⟨g, 0, none⟩ ∧ DPlan g R.length (rA R) (rL R) (ra R) (rl R) ∧ DMarked w g R.length (rA R) (rL R) (ra R) (rl R) 1 ∧ q = dAt (ra R) (rl R) 1 R.length
theorem Mk.below {w w' : World} {a : Option Addr} {R : List DR} {q B : Nat} (h : Mk w a R q) (hb : Below B w w') (hB : w.heap.size ≤ B) : Mk w' a R q := by
  rcases h with h | ⟨g, h1, h2, h3, h4⟩
  · exact .inl h
  · exact .inr ⟨g, h1, h2, h3.below hb hB, h4⟩
theorem touch_of_below {P : Nat → Prop} {B : Nat} {w w' : World} (h : Below B w w') (hB : w.heap.size ≤ B) : Touch P w w' := Touch.of_below h hB
theorem mark_drow {w0 w : World} {base c : Nat} {a : Option Addr} {R : List DR} (h0 : DRow w0 base (.slice a R.length c) R) (h : DRow w base (.slice a R.length c) R) (hf : ∀ r ∈ R, FitsDeed r.1) (hn : (R.length : Int) ≤ 1048576) :
    Calls Tryd.prog 9 #[.agg #[.slice a R.length c], .int .i64 1] w fun e w' => ∃ q : Nat, e = .returned (.int .i64 q) ∧ Touch (fun x => base ≤ x ∧ x < w0.heap.size) w w' ∧ Mk w' a R q := by
  by_cases hz : R.length = 0
  · rw [hz]
    refine (markAccount_nil a c 1 w).mono ?_
    rintro e w' ⟨rfl, hB⟩
    exact ⟨1, rfl, Touch.of_below hB (Nat.le_refl _), .inl ⟨hz, rfl⟩⟩
  · obtain ⟨g, c', e⟩ := cu_some h.own (by omega)
    cases e
    obtain ⟨hP, hC, _⟩ := h.plan hf
    obtain ⟨_, _, hB⟩ := h0.plan hf
    refine (markAccount_row g R.length c 1 _ _ _ _ w hn (by omega) (by omega) hP hC).mono ?_
    rintro e w' ⟨rfl, hM, hT⟩
    exact ⟨_, rfl, hT.mono hB, .inr ⟨g, rfl, hP, hM, rfl⟩⟩
theorem held_drow {w : World} {c q : Nat} {a : Option Addr} {R : List DR} (h : Mk w a R q) (hn : (R.length : Int) ≤ 1048576) :
    Calls Tryd.prog 10 #[.agg #[.slice a R.length c], .int .i64 1] w fun e w' => e = .returned (.int .i64 q) ∧ Below w.heap.size w w' := by
  rcases h with ⟨hz, rfl⟩ | ⟨g, rfl, hP, hM, rfl⟩
  · rw [hz]
    exact heldAccount_nil a c 1 w
  · exact heldAccount_row g R.length c 1 _ _ _ _ w hn (by omega) (by omega) hP hM
theorem DRow.touch {w w' : World} {base : Nat} {v : Value} {R : List DR} {P : Nat → Prop} (h : DRow w base v R) (ht : Touch P w w') (hP : ∀ k, P k → k < base) : DRow w' base v R :=
  h.blk fun k hk hb => ht.block k (by rcases hk with ⟨c, z, hk⟩ | ⟨c, z, hk⟩ | ⟨c, z, hk⟩ <;> exact (Array.getElem?_eq_some_iff.1 hk).1) (fun hp => by have := hP k hp; omega)
theorem cut_mem {f : Nat → Deed} {n : Nat} {t : ByteArray} {x : Deed} (hx : x ∈ cutD f n t) : ∃ L q, q < n ∧ x = mv f L q := by
  unfold cutD at hx
  split at hx
  · rename_i hok
    split at hx
    · cases hx
    · rename_i hw
      split at hx
      · rcases firstNo_cases (fun i => !((f i).name.toList == t.toList)) n with h | ⟨p, h, hp, -, -⟩
        · exact absurd h hw
        · have e : whereN f t n = (p : Int) := h
          rw [e, Int.toNat_natCast] at hx
          obtain ⟨q, hq, rfl⟩ := raw_mem (ahead_of (accOk_n hok).2.2) hp hx
          exact ⟨_, q, hq, rfl⟩
      · cases hx
  · cases hx
theorem cut_fits {f : Nat → Deed} {n : Nat} {t : ByteArray} (hf : ∀ i, i < n → FitsDeed (f i)) : ∀ x ∈ cutD f n t, FitsDeed x := by
  intro x hx
  obtain ⟨L, q, hq, rfl⟩ := cut_mem hx
  exact hf q hq
theorem cut_len {f : Nat → Deed} {n : Nat} {t : ByteArray} : (cutD f n t).length ≤ 400 := by
  unfold cutD
  split
  · rename_i hok
    split
    · simp
    · rename_i hw
      split
      · rcases firstNo_cases (fun i => !((f i).name.toList == t.toList)) n with h | ⟨p, h, hp, -, -⟩
        · exact absurd h hw
        · have e : whereN f t n = (p : Int) := h
          rw [e, Int.toNat_natCast, cutRaw, List.length_map]
          have := (cutL_len (ahead_of (accOk_n hok).2.2) hp).1
          have := (accOk_n hok).2.1
          omega
      · simp
  · simp

end Go.Proofs.YtkikpcklccdihaaDoor.Vp
