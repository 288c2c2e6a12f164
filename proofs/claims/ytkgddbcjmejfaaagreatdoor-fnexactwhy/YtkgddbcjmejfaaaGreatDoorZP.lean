/-
  Put together of: NmKit.
-/
import Derived.Test.YtkgddbcjmejfaaaGreatDoorZH
import Derived.Test.YtkgddbcjmejfaaaGreatDoorZD
import Derived.Test.YtkgddbcjmejfaaaGreatDoorZM

/-
  Answers that are rows of texts: marked, held.
-/
namespace Go.Proofs.YtkgddbcjmejfaaaGreatDoor.Vp
open Go.RowKit Go.Sort

theorem markStringS_sl (p : Option Addr) (n cap k0 b : Nat) (w : World) (hn : (n : Int) ≤ 1048576) (h1 : 1 ≤ (k0 : Int)) (h2 : (k0 : Int) ≤ 1152921504606846976) (h : Room w p n b n) :
    Calls Tryz.prog 12 #[.slice p n cap, .int .i64 k0] w fun e w' => e = .returned (.int .i64 ((k0 + n : Nat) : Int)) ∧ (n = 0 ∨ (p = some ⟨b, 0, none⟩ ∧ Cells w' b 0 n (markStr k0))) ∧ Touch (fun x => n ≠ 0 ∧ x = b) w w' := by
  by_cases hz : n = 0
  · subst hz
    exact (markStringS_nil p cap k0 w).mono fun e w' ⟨a, b⟩ => ⟨by simpa using a, .inl rfl, by rw [b]; exact Touch.refl _ _⟩
  · obtain ⟨rfl, G, hG⟩ := h.resolve_left hz
    exact (markStringS_row b 0 n cap k0 G w hn h1 h2 hG).mono fun e w' ⟨x, y, z⟩ => ⟨x, .inr ⟨rfl, y⟩, Touch.of_within z ⟨hz, rfl⟩⟩
theorem heldStringS_sl (p : Option Addr) (n cap k0 b : Nat) (w : World) (hn : (n : Int) ≤ 1048576) (h1 : 1 ≤ (k0 : Int)) (h2 : (k0 : Int) ≤ 1152921504606846976) (h : n = 0 ∨ (p = some ⟨b, 0, none⟩ ∧ Cells w b 0 n (markStr k0))) :
    Calls Tryz.prog 13 #[.slice p n cap, .int .i64 k0] w fun e w' => e = .returned (.int .i64 ((k0 + n : Nat) : Int)) ∧ Below w.heap.size w w' := by
  by_cases hz : n = 0
  · subst hz
    exact (heldStringS_nil p cap k0 w).mono fun e w' ⟨a, b⟩ => ⟨by simpa using a, by rw [b]; exact Below.refl _ _⟩
  · obtain ⟨rfl, hG⟩ := h.resolve_left hz
    exact heldStringS_row b 0 n cap k0 w hn h1 h2 hG

def nmS (L : List (List UInt8)) (j : Nat) : Value := .string (nmF L j)
theorem RowStr.touch {w w' : World} {b off n : Nat} {f : Nat → ByteArray} {P : Nat → Prop} (h : RowStr w b off n f) (hT : Touch P w w') (hb : ¬ P b) : RowStr w' b off n f :=
  ⟨Nat.lt_of_lt_of_le h.1 hT.size, fun i hi => (hT.cell (p := ⟨b, off + i, none⟩) h.1 hb).trans (h.2 i hi)⟩

/-- The answer's row: of its own, behind base. -/
def AnsStr (w : World) (base : Nat) (p : Option Addr) (g : Nat) (L : List (List UInt8)) : Prop := L.length = 0 ∨ (p = some ⟨g, 0, none⟩ ∧ base ≤ g ∧ RowStr w g 0 L.length (nmF L) ∧ ∃ F, Cells w g 0 L.length F)
theorem ans_of_owns {w : World} {base : Nat} {v : Value} {L : List (List UInt8)} (h : w.ownsRow base 9 1 v L.length (L.map encStr)) : ∃ p c g, v = .slice p L.length c ∧ AnsStr w base p g L := by
  by_cases hz : L.length = 0
  · rcases h.2 with ⟨hv, h0⟩ | ⟨g, cap, cur, hv, hb, hg, hc1, hc2, hc3, hc4⟩
    · exact ⟨none, 0, 0, by rw [hz]; exact hv, .inl hz⟩
    · exact ⟨_, cap, g, hv, .inl hz⟩
  · obtain ⟨g, cap, rfl⟩ := own_form h (by omega)
    have hr := row_of_owns h
    refine ⟨_, cap, g, rfl, .inr ⟨rfl, ?_, hr, nmS L, hr.1, fun j hj => ?_⟩⟩
    · rcases h.2 with ⟨hv, h0⟩ | ⟨g', cap', cur, hv, hb, hg, hc1, hc2, hc3, hc4⟩
      · simp at hv
      · simp only [Value.slice.injEq, Option.some.injEq, Addr.mk.injEq] at hv
        obtain ⟨⟨rfl, -⟩, -⟩ := hv
        exact hb
    · refine ⟨hr.2 j hj, ?_⟩
      rcases h.2 with ⟨hv, h0⟩ | ⟨g', cap', cur, hv, hb, hg, hc1, hc2, hc3, hc4⟩
      · simp at hv
      · simp only [Value.slice.injEq, Option.some.injEq, Addr.mk.injEq] at hv
        obtain ⟨⟨rfl, -⟩, -⟩ := hv
        simp [World.frozen?, hg]
theorem AnsStr.sl {w : World} {base g : Nat} {p : Option Addr} {L : List (List UInt8)} (h : AnsStr w base p g L) : SlStr w p L.length (nmF L) := by
  rcases h with h | ⟨h1, h2, h3, h4⟩
  · exact .inl h
  · exact .inr ⟨g, 0, h1, h3⟩
theorem AnsStr.room {w : World} {base g : Nat} {p : Option Addr} {L : List (List UInt8)} (h : AnsStr w base p g L) : Room w p L.length g L.length := by
  rcases h with h | ⟨h1, h2, h3, h4⟩
  · exact .inl h
  · exact .inr ⟨h1, h4⟩
theorem AnsStr.below {w w' : World} {base g B : Nat} {p : Option Addr} {L : List (List UInt8)} (h : AnsStr w base p g L) (hb : Below B w w') (hB : w.heap.size ≤ B) : AnsStr w' base p g L := by
  rcases h with h | ⟨h1, h2, h3, F, h4⟩
  · exact .inl h
  · exact .inr ⟨h1, h2, h3.below hb hB, F, h4.below hb (Nat.lt_of_lt_of_le h4.1 hB)⟩
theorem AnsStr.touch {w w' : World} {base g : Nat} {p : Option Addr} {L : List (List UInt8)} {P : Nat → Prop} (h : AnsStr w base p g L) (hT : Touch P w w') (hP : ∀ x, P x → x < base) : AnsStr w' base p g L := by
  rcases h with h | ⟨h1, h2, h3, F, h4⟩
  · exact .inl h
  · have hg : ¬ P g := fun hp => by have := hP g hp; omega
    exact .inr ⟨h1, h2, h3.touch hT hg, F, h4.touch hT hg⟩
theorem AnsStr.ge {w : World} {base g : Nat} {p : Option Addr} {L : List (List UInt8)} (h : AnsStr w base p g L) (hz : L.length ≠ 0) : base ≤ g := (h.resolve_left hz).2.1

/-- A box of one cell. -/
structure OneBox (w : World) (b : Nat) (v : Value) : Prop where
  lt : b < w.heap.size
  c0 : w.cell? ⟨b, 0, none⟩ = some v
theorem one_box (w : World) (v : Value) (t : TypeId) : OneBox (w.alloc (.cells #[v] t)) w.heap.size v := ⟨by simp, by simp⟩
theorem OneBox.below {w w' : World} {b : Nat} {v : Value} (h : OneBox w b v) {B : Nat} (hb : Below B w w') (hB : w.heap.size ≤ B) : OneBox w' b v :=
  ⟨Nat.lt_of_lt_of_le h.lt hb.size, (hb.cell (p := ⟨b, 0, none⟩) (Nat.lt_of_lt_of_le h.lt hB)).trans h.c0⟩
theorem OneBox.touch {w w' : World} {b : Nat} {v : Value} {P : Nat → Prop} (h : OneBox w b v) (hT : Touch P w w') (hb : ¬ P b) : OneBox w' b v :=
  ⟨Nat.lt_of_lt_of_le h.lt hT.size, (hT.cell (p := ⟨b, 0, none⟩) h.lt hb).trans h.c0⟩

end Go.Proofs.YtkgddbcjmejfaaaGreatDoor.Vp
