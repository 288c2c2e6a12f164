/-
  Put together of: NmKit, CoPure.
-/
import Derived.Test.YtkgddbcjmejfaaaDoorZG
import Derived.Test.YtkgddbcjmejfaaaDoorZD
import Derived.Test.YtkgddbcjmejfaaaDoorZL
import Derived.Test.YtkgddbcjmejfaaaDoorZH
import Derived.Test.YtkgddbcjmejfaaaDoorZM

/-
  Answers that are rows of texts: marked, held.
-/
namespace Go.Proofs.YtkgddbcjmejfaaaDoor.Vp
open Go.RowKit Go.Sort

theorem markStringS_sl (p : Option Addr) (n cap k0 b : Nat) (w : World) (hn : (n : Int) ≤ 1048576) (h1 : 1 ≤ (k0 : Int)) (h2 : (k0 : Int) ≤ 1152921504606846976) (h : Room w p n b n) :
    Calls Tryd.prog 14 #[.slice p n cap, .int .i64 k0] w fun e w' => e = .returned (.int .i64 ((k0 + n : Nat) : Int)) ∧ (n = 0 ∨ (p = some ⟨b, 0, none⟩ ∧ Cells w' b 0 n (markStr k0))) ∧ Touch (fun x => n ≠ 0 ∧ x = b) w w' := by
  by_cases hz : n = 0
  · subst hz
    exact (markStringS_nil p cap k0 w).mono fun e w' ⟨a, b⟩ => ⟨by simpa using a, .inl rfl, by rw [b]; exact Touch.refl _ _⟩
  · obtain ⟨rfl, G, hG⟩ := h.resolve_left hz
    exact (markStringS_row b 0 n cap k0 G w hn h1 h2 hG).mono fun e w' ⟨x, y, z⟩ => ⟨x, .inr ⟨rfl, y⟩, Touch.of_within z ⟨hz, rfl⟩⟩
theorem heldStringS_sl (p : Option Addr) (n cap k0 b : Nat) (w : World) (hn : (n : Int) ≤ 1048576) (h1 : 1 ≤ (k0 : Int)) (h2 : (k0 : Int) ≤ 1152921504606846976) (h : n = 0 ∨ (p = some ⟨b, 0, none⟩ ∧ Cells w b 0 n (markStr k0))) :
    Calls Tryd.prog 15 #[.slice p n cap, .int .i64 k0] w fun e w' => e = .returned (.int .i64 ((k0 + n : Nat) : Int)) ∧ Below w.heap.size w w' := by
  by_cases hz : n = 0
  · subst hz
    exact (heldStringS_nil p cap k0 w).mono fun e w' ⟨a, b⟩ => ⟨by simpa using a, by rw [b]; exact Below.refl _ _⟩
  · obtain ⟨rfl, hG⟩ := h.resolve_left hz
    exact heldStringS_row b 0 n cap k0 w hn h1 h2 hG

def nmS (L : List (List UInt8)) (j : Nat) : Value := .string (nmF L j)
theorem RowStr.touch {w w' : World} {b off n : Nat} {f : Nat → ByteArray} {P : Nat → Prop} (h : RowStr w b off n f) (hT : Touch P w w') (hb : ¬ P b) : RowStr w' b off n f :=
  ⟨Nat.lt_of_lt_of_le h.1 hT.size, fun i hi => (hT.cell (p := ⟨b, off + i, none⟩) h.1 hb).trans (h.2 i hi)⟩

/-- The answer's row: of its own, behind base. -/
def AnsStr (w : World) (base : Nat) (p : Option Addr) (g : Nat) (L : List (List UInt8)) : Prop := L.length = 0 ∨ (p = some ⟨g, 0, none⟩ ∧ base ≤ g ∧ RowStr w g 0 L.length (nmF L) ∧ ∃ F, Cells w g 0 L.length F)
theorem ans_of_owns {w : World} {base : Nat} {v : Value} {L : List (List UInt8)} (h : w.ownsRow base 9 1 v L.length (L.map encStr)) : ∃ p c g, v = .slice p L.length c ∧ AnsStr w base p g L := by
  by_cases hz : L.length = 0
  · rcases h.2 with ⟨hv, h0⟩ | ⟨g, cap, cur, hv, hb, hg, hc1, hc2, hc3, hc4⟩
    · exact ⟨none, 0, 0, by rw [hz]; exact hv, .inl hz⟩
    · exact ⟨_, cap, g, hv, .inl hz⟩
  · obtain ⟨g, cap, rfl⟩ := own_form h (by omega)
    have hr := row_of_owns h
    refine ⟨_, cap, g, rfl, .inr ⟨rfl, ?_, hr, nmS L, hr.1, fun j hj => ?_⟩⟩
    · rcases h.2 with ⟨hv, h0⟩ | ⟨g', cap', cur, hv, hb, hg, hc1, hc2, hc3, hc4⟩
      · simp at hv
      · simp only [Value.slice.injEq, Option.some.injEq, Addr.mk.injEq] at hv
        obtain ⟨⟨rfl, -⟩, -⟩ := hv
        exact hb
    · refine ⟨hr.2 j hj, ?_⟩
      rcases h.2 with ⟨hv, h0⟩ | ⟨g', cap', cur, hv, hb, hg, hc1, hc2, hc3, hc4⟩
      · simp at hv
      · simp only [Value.slice.injEq, Option.some.injEq, Addr.mk.injEq] at hv
        obtain ⟨⟨rfl, -⟩, -⟩ := hv
        simp [World.frozen?, hg]
theorem AnsStr.sl {w : World} {base g : Nat} {p : Option Addr} {L : List (List UInt8)} (h : AnsStr w base p g L) : SlStr w p L.length (nmF L) := by
  rcases h with h | ⟨h1, h2, h3, h4⟩
  · exact .inl h
  · exact .inr ⟨g, 0, h1, h3⟩
theorem AnsStr.room {w : World} {base g : Nat} {p : Option Addr} {L : List (List UInt8)} (h : AnsStr w base p g L) : Room w p L.length g L.length := by
  rcases h with h | ⟨h1, h2, h3, h4⟩
  · exact .inl h
  · exact .inr ⟨h1, h4⟩
theorem AnsStr.below {w w' : World} {base g B : Nat} {p : Option Addr} {L : List (List UInt8)} (h : AnsStr w base p g L) (hb : Below B w w') (hB : w.heap.size ≤ B) : AnsStr w' base p g L := by
  rcases h with h | ⟨h1, h2, h3, F, h4⟩
  · exact .inl h
  · exact .inr ⟨h1, h2, h3.below hb hB, F, h4.below hb (Nat.lt_of_lt_of_le h4.1 hB)⟩
theorem AnsStr.touch {w w' : World} {base g : Nat} {p : Option Addr} {L : List (List UInt8)} {P : Nat → Prop} (h : AnsStr w base p g L) (hT : Touch P w w') (hP : ∀ x, P x → x < base) : AnsStr w' base p g L := by
  rcases h with h | ⟨h1, h2, h3, F, h4⟩
  · exact .inl h
  · have hg : ¬ P g := fun hp => by have := hP g hp; omega
    exact .inr ⟨h1, h2, h3.touch hT hg, F, h4.touch hT hg⟩
theorem AnsStr.ge {w : World} {base g : Nat} {p : Option Addr} {L : List (List UInt8)} (h : AnsStr w base p g L) (hz : L.length ≠ 0) : base ≤ g := (h.resolve_left hz).2.1

/-- A box of one cell. -/
structure OneBox (w : World) (b : Nat) (v : Value) : Prop where
  lt : b < w.heap.size
  c0 : w.cell? ⟨b, 0, none⟩ = some v
theorem one_box (w : World) (v : Value) (t : TypeId) : OneBox (w.alloc (.cells #[v] t)) w.heap.size v := ⟨by simp, by simp⟩
theorem OneBox.below {w w' : World} {b : Nat} {v : Value} (h : OneBox w b v) {B : Nat} (hb : Below B w w') (hB : w.heap.size ≤ B) : OneBox w' b v :=
  ⟨Nat.lt_of_lt_of_le h.lt hb.size, (hb.cell (p := ⟨b, 0, none⟩) (Nat.lt_of_lt_of_le h.lt hB)).trans h.c0⟩
theorem OneBox.touch {w w' : World} {b : Nat} {v : Value} {P : Nat → Prop} (h : OneBox w b v) (hT : Touch P w w') (hb : ¬ P b) : OneBox w' b v :=
  ⟨Nat.lt_of_lt_of_le h.lt hT.size, (hT.cell (p := ⟨b, 0, none⟩) h.lt hb).trans h.c0⟩

end Go.Proofs.YtkgddbcjmejfaaaDoor.Vp

/-
  What Cover answers.
-/
namespace Go.Proofs.YtkgddbcjmejfaaaDoor.Vp
open Go.RowKit Go.Sort

/-- the account names the name. -/
def covs (x : Acc) (t : ByteArray) : Bool := decide (t.toList ∈ nams x.f x.n)
def covL (F : Nat → Acc) (t : ByteArray) : Nat → List Int
  | 0 => []
  | k + 1 => if covs (F k) t = true then covL F t k ++ [(k : Int)] else covL F t k
def cover (F : Nat → Acc) (m : Nat) (t : ByteArray) : List Int := if 50 < m then [] else covL F t m
theorem covL_len (F : Nat → Acc) (t : ByteArray) (k : Nat) : (covL F t k).length ≤ k := by
  induction k with
  | zero => exact Nat.le_refl _
  | succ k ih =>
    rw [covL]
    split
    · simp; omega
    · omega
theorem cover_len (F : Nat → Acc) (m : Nat) (t : ByteArray) : (cover F m t).length ≤ 1048576 := by
  unfold cover
  split
  · simp
  · have := covL_len F t m
    omega
theorem nams_asc (f : Nat → Deed) (n : Nat) : (nams f n).Pairwise (· < ·) := by
  unfold nams
  split
  · exact nameL_asc f n
  · exact List.Pairwise.nil
/-- the name is among the first j of a list. -/
def seen (L : List (List UInt8)) (t : ByteArray) (j : Nat) : Bool := decide (t.toList ∈ L.take j)
theorem seen_end (L : List (List UInt8)) (t : ByteArray) : seen L t L.length = decide (t.toList ∈ L) := by simp [seen]
theorem seen_succ {L : List (List UInt8)} {t : ByteArray} {j : Nat} (hj : j < L.length) : seen L t (j + 1) = (seen L t j || ((nmF L j).toList == t.toList)) := by
  unfold seen
  rw [← List.take_append_getElem hj, nmF_at hj]
  by_cases h : t.toList ∈ L.take j
  · simp only [List.mem_append, h, true_or, decide_true, Bool.true_or]
  · simp only [List.mem_append, h, false_or, List.mem_singleton, decide_false, Bool.false_or]
    by_cases e : t.toList = L[j]
    · simp [e]
    · have e' : L[j] ≠ t.toList := fun h => e h.symm
      simp [e, e']
theorem seen_new {L : List (List UInt8)} {t : ByteArray} {j : Nat} (hL : L.Pairwise (· < ·)) (hj : j < L.length) (h : (nmF L j).toList = t.toList) : seen L t j = false := by
  unfold seen
  rw [nmF_at hj] at h
  simp only [decide_eq_false_iff_not]
  intro hm
  obtain ⟨i, hi, he⟩ := List.getElem_of_mem hm
  rw [List.length_take] at hi
  rw [List.getElem_take] at he
  have := List.pairwise_iff_getElem.1 hL i j (by omega) hj (by omega)
  rw [he, h] at this
  exact List.lt_irrefl _ this
/-- a row of accounts as it was copied. -/
def AccE (w : World) (b m : Nat) (F : Nat → Acc) : Prop := b < w.heap.size ∧ ∀ i, i < m → ∃ a0, w.cell? ⟨b, i, none⟩ = some (.slice a0 (F i).n (F i).n) ∧ SlDeed w a0 (F i).n (F i).f
theorem AccE.below {w w' : World} {b m B : Nat} {F : Nat → Acc} (h : AccE w b m F) (hb : Below B w w') (hB : w.heap.size ≤ B) : AccE w' b m F := by
  refine ⟨Nat.lt_of_lt_of_le h.1 hb.size, fun i hi => ?_⟩
  obtain ⟨a0, h1, h2⟩ := h.2 i hi
  exact ⟨a0, (hb.cell (p := ⟨b, i, none⟩) (Nat.lt_of_lt_of_le h.1 hB)).trans h1, h2.below hb hB⟩
theorem OwnAcc.accE {w : World} {g m N : Nat} {F : Nat → Acc} {V : Nat → Value} {G H : Nat → Nat} (h : OwnAcc w g m m N F V G H) : AccE w g m F :=
  ⟨h.row.lt, fun i hi => ⟨_, by rw [h.row.cell hi, h.cell i hi], (h.own i hi).row.sl⟩⟩

end Go.Proofs.YtkgddbcjmejfaaaDoor.Vp
