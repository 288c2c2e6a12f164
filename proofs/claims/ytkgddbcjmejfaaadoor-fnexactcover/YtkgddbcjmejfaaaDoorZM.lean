/-
  Put together of: MInt.
-/
import Derived.Test.YtkgddbcjmejfaaaDoorZC
import Derived.Test.YtkgddbcjmejfaaaDoorZJ
import Derived.Test.YtkgddbcjmejfaaaDoorZG

/-
  Rows of ints: compared, marked, held; answers that are rows of ints.
-/
namespace Go.Proofs.YtkgddbcjmejfaaaDoor.Vp
open Go.RowKit Go.Sort

def RowInt (w : World) (b off n : Nat) (f : Nat → Int) : Prop := b < w.heap.size ∧ ∀ i, i < n → w.cell? ⟨b, off + i, none⟩ = some (.int .i64 (f i))
theorem RowInt.below {w w' : World} {B b off n : Nat} {f : Nat → Int} (h : RowInt w b off n f) (hb : Below B w w') (hB : w.heap.size ≤ B) : RowInt w' b off n f :=
  ⟨Nat.lt_of_lt_of_le h.1 hb.size, fun i hi => (hb.cell (p := ⟨b, _, none⟩) (Nat.lt_of_lt_of_le h.1 hB)).trans (h.2 i hi)⟩
theorem RowInt.touch {w w' : World} {b off n : Nat} {f : Nat → Int} {P : Nat → Prop} (h : RowInt w b off n f) (hT : Touch P w w') (hb : ¬ P b) : RowInt w' b off n f :=
  ⟨Nat.lt_of_lt_of_le h.1 hT.size, fun i hi => (hT.cell (p := ⟨b, off + i, none⟩) h.1 hb).trans (h.2 i hi)⟩
def SlInt (w : World) (a : Option Addr) (n : Nat) (f : Nat → Int) : Prop := n = 0 ∨ ∃ b off, a = some ⟨b, off, none⟩ ∧ RowInt w b off n f

set_option maxHeartbeats 1000000 in
theorem eqIntS_row (b off cap b2 off2 cap2 n : Nat) (f : Nat → Int) (w : World) (hn : n ≤ 1048576) (hf : RowInt w b off n f) (hf2 : RowInt w b2 off2 n f) :
    Calls Tryd.prog 24 #[.slice (some ⟨b, off, none⟩) n cap, .slice (some ⟨b2, off2, none⟩) n cap2] w fun e w' => e = .returned (.bool true) ∧ Below w.heap.size w w' := by
  have HF := hide hf
  have HF2 := hide hf2
  clear hf hf2
  go_enter Tryd.func24, Tryd.ntmps24
  go_wp2
  go_loopw [5] (fun i wr => ∃ k : Nat, k ≤ n ∧ i = .int .i64 k ∧ Below w.heap.size w wr) (fun i _ => n - (intOf i).toNat)
  case atStart => exact ⟨0, by omega, rfl, Below.refl _ _⟩
  case round =>
    obtain ⟨k, hk, rfl, hB⟩ := hrel
    have HB := hide hB
    clear hB
    by_cases hlt : k < n
    · have c0 := (HF.out.below HB.out (Nat.le_refl _)).2 k hlt
      have d0 := (HF2.out.below HB.out (Nat.le_refl _)).2 k hlt
      go_wp2_with fail
      go_quiet (fail)
      have HB1 := hide (below_drewN HB.out nq)
      clear c0 d0
      generalize wr.drewN nq = W at HB1 ⊢
      have c0 := (HF.out.below HB1.out (Nat.le_refl _)).2 k hlt
      have d0 := (HF2.out.below HB1.out (Nat.le_refl _)).2 k hlt
      go_wp2
      exact ⟨⟨k + 1, by omega, by go_num, HB1.out⟩, by simp [intOf]; omega⟩
    · have e : k = n := by omega
      subst e
      go_wp2
      go_ret
      exact ⟨rfl, HB.out⟩
set_option maxHeartbeats 1000000 in
theorem eqIntS_nil (a a2 : Option Addr) (cap cap2 : Nat) (w : World) :
    Calls Tryd.prog 24 #[.slice a 0 cap, .slice a2 0 cap2] w fun e w' => e = .returned (.bool true) ∧ w' = w := by
  go_enter Tryd.func24, Tryd.ntmps24
  go_wp2
  go_loop [5] (fun i => i = .int .i64 0) (fun _ => 0)
  case atStart => rfl
  case round =>
    subst hrel
    go_wp2
    go_ret
    exact ⟨rfl, rfl⟩
theorem eqIntS_any (a a2 : Option Addr) (cap cap2 n : Nat) (f : Nat → Int) (w : World) (hn : n ≤ 1048576) (h : SlInt w a n f) (h2 : SlInt w a2 n f) :
    Calls Tryd.prog 24 #[.slice a n cap, .slice a2 n cap2] w fun e w' => e = .returned (.bool true) ∧ Below w.heap.size w w' := by
  by_cases hz : n = 0
  · subst hz
    exact (eqIntS_nil a a2 cap cap2 w).mono fun _ _ ⟨a, b⟩ => ⟨a, by rw [b]; exact Below.refl _ _⟩
  · rcases h with h | ⟨b, off, rfl, hf⟩
    · exact absurd h hz
    · rcases h2 with h | ⟨b2, off2, rfl, hf2⟩
      · exact absurd h hz
      · exact eqIntS_row b off cap b2 off2 cap2 n f w hn hf hf2

/-- What cell j of a marked row of ints holds. -/
def markInt (k0 : Nat) (j : Nat) : Value := .int .i64 ((k0 : Int) + j)
theorem markInt_at {k0 k q : Nat} (h : q = k0 + k) : markInt k0 k = .int .i64 (q : Int) := by
  have e : (k0 : Int) + (k : Int) = (q : Int) := by omega
  unfold markInt
  rw [e]
set_option maxRecDepth 100000 in
set_option maxHeartbeats 4000000 in
theorem markIntS_row (b off n cap k0 : Nat) (F : Nat → Value) (w : World) (hn : (n : Int) ≤ 1048576) (h1 : 1 ≤ (k0 : Int)) (h2 : (k0 : Int) ≤ 1152921504606846976) (hC : Cells w b off n F) :
    Calls Tryd.prog 27 #[.slice (some ⟨b, off, none⟩) n cap, .int .i64 k0] w fun e w' => e = .returned (.int .i64 ((k0 + n : Nat) : Int)) ∧ Cells w' b off n (markInt k0) ∧ Within b (b + 1) w w' := by
  have HC := hide hC
  clear hC
  go_enter Tryd.func27, Tryd.ntmps27
  go_wp2
  go_loopw [1, 5] (fun v i wr => ∃ (k q : Nat) (F : Nat → Value), k ≤ n ∧ Hid (q = k0 + k) ∧ i = .int .i64 k ∧ v = .int .i64 q ∧ Hid (Cells wr b off n F) ∧ Hid (∀ j, j < k → F j = markInt k0 j) ∧ Hid (Within b (b + 1) w wr)) (fun _ i _ => n - (intOf i).toNat)
  case atStart => exact ⟨0, k0, F, by omega, by show k0 = _; omega, rfl, rfl, HC.out, fun j hj => by omega, Within.refl _ _ _⟩
  case round =>
    obtain ⟨k, q, F, hk, HQ, rfl, rfl, HC0, HM, HW0⟩ := hrel
    have hq1 : 1 ≤ (q : Int) := by have := HQ.out; omega
    have hq2 : (q : Int) ≤ 1152921504610000000 := by have := HQ.out; omega
    by_cases hlt : k < n
    · obtain ⟨c0, z0⟩ := HC0.out.at (off + k) k (by omega) (by omega)
      have HS1 := hide (HC0.out.setAt (off + k) k (by omega) (by omega) (.int .i64 (q : Int)))
      have HX1 := hide (HW0.out.setCell (p := ⟨b, off + k, none⟩) (Nat.le_refl _) (Nat.lt_succ_self _) (.int .i64 (q : Int)))
      go_wp2
      refine ⟨⟨k + 1, q + 1, _, by omega, by show q + 1 = k0 + (k + 1); have := HQ.out; omega, by go_num, by go_num, HS1.out, ?_, HX1.out⟩, by simp [intOf]; omega⟩
      intro j hj
      rcases (show j < k ∨ j = k by omega) with h | rfl
      · rw [if_neg (by omega), HM.out j h]
      · rw [if_pos rfl, markInt_at HQ.out]
    · have e : k = n := by omega
      subst e
      have hv : (q : Int) = ((k0 + k : Nat) : Int) := by rw [HQ.out]
      have HV := hide hv
      clear hv
      go_wp2
      go_ret
      exact ⟨by show Ending.returned (.int .i64 (q : Int)) = _; rw [HV.out], HC0.out.congr HM.out, HW0.out⟩
set_option maxHeartbeats 1000000 in
theorem markIntS_nil (a : Option Addr) (cap k0 : Nat) (w : World) : Calls Tryd.prog 27 #[.slice a 0 cap, .int .i64 k0] w fun e w' => e = .returned (.int .i64 (k0 : Int)) ∧ w' = w := by
  go_enter Tryd.func27, Tryd.ntmps27
  go_wp2
  go_loop [1, 5] (fun v i => v = .int .i64 k0 ∧ i = .int .i64 0) (fun _ _ => 0)
  case atStart => exact ⟨rfl, rfl⟩
  case round =>
    obtain ⟨rfl, rfl⟩ := hrel
    go_wp2
    go_ret
    exact ⟨rfl, rfl⟩
set_option maxHeartbeats 1000000 in
theorem heldIntS_nil (a : Option Addr) (cap k0 : Nat) (w : World) : Calls Tryd.prog 28 #[.slice a 0 cap, .int .i64 k0] w fun e w' => e = .returned (.int .i64 (k0 : Int)) ∧ w' = w := by
  go_enter Tryd.func28, Tryd.ntmps28
  go_wp2
  go_loop [1, 5] (fun v i => v = .int .i64 k0 ∧ i = .int .i64 0) (fun _ _ => 0)
  case atStart => exact ⟨rfl, rfl⟩
  case round =>
    obtain ⟨rfl, rfl⟩ := hrel
    go_wp2
    go_ret
    exact ⟨rfl, rfl⟩
set_option maxRecDepth 100000 in
set_option maxHeartbeats 4000000 in
theorem heldIntS_row (b off n cap k0 : Nat) (w : World) (hn : (n : Int) ≤ 1048576) (h1 : 1 ≤ (k0 : Int)) (h2 : (k0 : Int) ≤ 1152921504606846976) (hC : Cells w b off n (markInt k0)) :
    Calls Tryd.prog 28 #[.slice (some ⟨b, off, none⟩) n cap, .int .i64 k0] w fun e w' => e = .returned (.int .i64 ((k0 + n : Nat) : Int)) ∧ Below w.heap.size w w' := by
  have HC := hide hC
  clear hC
  go_enter Tryd.func28, Tryd.ntmps28
  go_wp2
  go_loopw [1, 5] (fun v i wr => ∃ k q : Nat, k ≤ n ∧ Hid (q = k0 + k) ∧ i = .int .i64 k ∧ v = .int .i64 q ∧ wr = w) (fun _ i _ => n - (intOf i).toNat)
  case atStart => exact ⟨0, k0, by omega, by show k0 = _; omega, rfl, rfl, rfl⟩
  case round =>
    obtain ⟨k, q, hk, HQ, rfl, rfl, rfl⟩ := hrel
    have hq1 : 1 ≤ (q : Int) := by have := HQ.out; omega
    have hq2 : (q : Int) ≤ 1152921504610000000 := by have := HQ.out; omega
    by_cases hlt : k < n
    · have c0 : wr.cell? ⟨b, off + k, none⟩ = some (.int .i64 (q : Int)) := by have := (HC.out.at (off + k) k (by omega) (by omega)).1; rw [markInt_at HQ.out] at this; exact this
      go_wp2
      exact ⟨⟨k + 1, q + 1, by omega, by show q + 1 = k0 + (k + 1); have := HQ.out; omega, by go_num, by go_num, by first | rfl | trivial⟩, by simp [intOf]; omega⟩
    · have e : k = n := by omega
      subst e
      have hv : (q : Int) = ((k0 + k : Nat) : Int) := by rw [HQ.out]
      have HV := hide hv
      clear hv
      go_wp2
      go_ret
      exact ⟨by show Ending.returned (.int .i64 (q : Int)) = _; rw [HV.out], Below.refl _ _⟩

theorem markIntS_sl (p : Option Addr) (n cap k0 b : Nat) (w : World) (hn : (n : Int) ≤ 1048576) (h1 : 1 ≤ (k0 : Int)) (h2 : (k0 : Int) ≤ 1152921504606846976) (h : Room w p n b n) :
    Calls Tryd.prog 27 #[.slice p n cap, .int .i64 k0] w fun e w' => e = .returned (.int .i64 ((k0 + n : Nat) : Int)) ∧ (n = 0 ∨ (p = some ⟨b, 0, none⟩ ∧ Cells w' b 0 n (markInt k0))) ∧ Touch (fun x => n ≠ 0 ∧ x = b) w w' := by
  by_cases hz : n = 0
  · subst hz
    exact (markIntS_nil p cap k0 w).mono fun e w' ⟨a, b⟩ => ⟨by simpa using a, .inl rfl, by rw [b]; exact Touch.refl _ _⟩
  · obtain ⟨rfl, G, hG⟩ := h.resolve_left hz
    exact (markIntS_row b 0 n cap k0 G w hn h1 h2 hG).mono fun e w' ⟨x, y, z⟩ => ⟨x, .inr ⟨rfl, y⟩, Touch.of_within z ⟨hz, rfl⟩⟩
theorem heldIntS_sl (p : Option Addr) (n cap k0 b : Nat) (w : World) (hn : (n : Int) ≤ 1048576) (h1 : 1 ≤ (k0 : Int)) (h2 : (k0 : Int) ≤ 1152921504606846976) (h : n = 0 ∨ (p = some ⟨b, 0, none⟩ ∧ Cells w b 0 n (markInt k0))) :
    Calls Tryd.prog 28 #[.slice p n cap, .int .i64 k0] w fun e w' => e = .returned (.int .i64 ((k0 + n : Nat) : Int)) ∧ Below w.heap.size w w' := by
  by_cases hz : n = 0
  · subst hz
    exact (heldIntS_nil p cap k0 w).mono fun e w' ⟨a, b⟩ => ⟨by simpa using a, by rw [b]; exact Below.refl _ _⟩
  · obtain ⟨rfl, hG⟩ := h.resolve_left hz
    exact heldIntS_row b 0 n cap k0 w hn h1 h2 hG

/-- a list of ints as cells, as a function of the place. -/
def encInt (x : Int) : Value := .int .i64 x
def intF (L : List Int) (j : Nat) : Int := L.getD j 0
/-- The answer's row: of its own, behind base. -/
def AnsInt (w : World) (base : Nat) (p : Option Addr) (g : Nat) (L : List Int) : Prop := L.length = 0 ∨ (p = some ⟨g, 0, none⟩ ∧ base ≤ g ∧ RowInt w g 0 L.length (intF L) ∧ ∃ F, Cells w g 0 L.length F)
theorem ansI_of_owns {w : World} {base : Nat} {v : Value} {L : List Int} (h : w.ownsRow base 3 1 v L.length (L.map encInt)) : ∃ p c g, v = .slice p L.length c ∧ AnsInt w base p g L := by
  rcases h.2 with ⟨hv, h0⟩ | ⟨g, cap, cur, hv, hb, hg, hc1, hc2, hc3, hc4⟩
  · exact ⟨none, 0, 0, by rw [h0]; exact hv, .inl h0⟩
  · have hlt : g < w.heap.size := by
      rcases Nat.lt_or_ge g w.heap.size with h1 | h1
      · exact h1
      · rw [Array.getElem?_eq_none h1] at hg; simp at hg
    have each : ∀ i, i < L.length → w.cell? ⟨g, 0 + i, none⟩ = some (.int .i64 (intF L i)) := by
      intro i hi
      have e1 : w.cell? ⟨g, 0 + i, none⟩ = cur[i]? := by simp [World.cell?, hg]
      have e2 : (cur.toList.take (L.length * 1))[i]? = (L.map encInt)[i]? := by rw [hc4]
      rw [List.getElem?_take, if_pos (by omega), Array.getElem?_toList, List.getElem?_map, List.getElem?_eq_getElem hi] at e2
      rw [e1, e2]
      simp [encInt, intF, List.getD, hi]
    exact ⟨_, cap, g, hv, .inr ⟨rfl, hb, ⟨hlt, each⟩, fun j => .int .i64 (intF L j), hlt, fun j hj => ⟨each j hj, by simp [World.frozen?, hg]⟩⟩⟩
theorem AnsInt.sl {w : World} {base g : Nat} {p : Option Addr} {L : List Int} (h : AnsInt w base p g L) : SlInt w p L.length (intF L) := by
  rcases h with h | ⟨h1, h2, h3, h4⟩
  · exact .inl h
  · exact .inr ⟨g, 0, h1, h3⟩
theorem AnsInt.room {w : World} {base g : Nat} {p : Option Addr} {L : List Int} (h : AnsInt w base p g L) : Room w p L.length g L.length := by
  rcases h with h | ⟨h1, h2, h3, h4⟩
  · exact .inl h
  · exact .inr ⟨h1, h4⟩
theorem AnsInt.below {w w' : World} {base g B : Nat} {p : Option Addr} {L : List Int} (h : AnsInt w base p g L) (hb : Below B w w') (hB : w.heap.size ≤ B) : AnsInt w' base p g L := by
  rcases h with h | ⟨h1, h2, h3, F, h4⟩
  · exact .inl h
  · exact .inr ⟨h1, h2, h3.below hb hB, F, h4.below hb (Nat.lt_of_lt_of_le h4.1 hB)⟩
theorem AnsInt.touch {w w' : World} {base g : Nat} {p : Option Addr} {L : List Int} {P : Nat → Prop} (h : AnsInt w base p g L) (hT : Touch P w w') (hP : ∀ x, base ≤ x → x < w.heap.size → ¬ P x) : AnsInt w' base p g L := by
  rcases h with h | ⟨h1, h2, h3, F, h4⟩
  · exact .inl h
  · have hg : ¬ P g := hP g h2 h4.1
    exact .inr ⟨h1, h2, h3.touch hT hg, F, h4.touch hT hg⟩
theorem AnsInt.ge {w : World} {base g : Nat} {p : Option Addr} {L : List Int} (h : AnsInt w base p g L) (hz : L.length ≠ 0) : base ≤ g ∧ g < w.heap.size := ⟨(h.resolve_left hz).2.1, (h.resolve_left hz).2.2.1.1⟩

end Go.Proofs.YtkgddbcjmejfaaaDoor.Vp
