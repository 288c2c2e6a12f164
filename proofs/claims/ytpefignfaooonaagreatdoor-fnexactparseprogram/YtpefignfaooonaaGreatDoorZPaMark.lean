/-
  FnExactParseProgram: marks; what is compared.
-/
import Derived.Test.YtpefignfaooonaaGreatDoorZPaPgm
import Derived.Test.YtpefignfaooonaaGreatDoorZHIns
import Derived.Test.YtpefignfaooonaaGreatDoorZDProgramB
namespace Go.Proofs.YtpefignfaooonaaGreatDoor.Vp
open Go.RowKit

theorem addr_addP (b off j : Nat) : (⟨b, off, none⟩ : Addr).add j = ⟨b, off + j, none⟩ := by
  unfold Addr.add
  split <;> simp_all
def insF (L : List I3) (i : Nat) : Ins := match L[i]? with
  | some x => ⟨x.1, ⟨x.2.1.toArray⟩, x.2.2⟩
  | none => ⟨0, ⟨#[]⟩, 0⟩
theorem i3L_at : ∀ (L : List I3) (i j : Nat) (_ : j < 3) (x : I3), L[i]? = some x → (i3L L)[i * 3 + j]? = (i3V x)[j]?
  | [], i, j, _, x, h => by simp at h
  | y :: L, 0, j, hj, x, h => by
    simp at h
    subst h
    rw [i3L, List.flatMap_cons, Nat.zero_mul, Nat.zero_add, List.getElem?_append_left (by simpa [i3V] using hj)]
  | y :: L, i + 1, j, hj, x, h => by
    simp at h
    have hl : (i3V y).length = 3 := rfl
    rw [i3L, List.flatMap_cons, List.getElem?_append_right (by rw [hl, Nat.succ_mul]; omega), hl, show (i + 1) * 3 + j - 3 = i * 3 + j by rw [Nat.succ_mul]; omega]
    exact i3L_at L i j hj x h
theorem own_cellP {w : World} {base size n g cap : Nat} {e : TypeId} {xs : List Value} (h : w.ownsRow base e size (.slice (some ⟨g, 0, none⟩) n cap) n xs) {j : Nat} {u : Value} (hu : xs[j]? = some u) : w.cell? ⟨g, j, none⟩ = some u ∧ w.frozen? ⟨g, j, none⟩ = false := by
  refine ⟨?_, ?_⟩
  · have := World.ownsRow.cells h (g := g) rfl j u hu
    rw [addr_addP, Nat.zero_add] at this
    exact this
  · rcases h.2 with ⟨hv, _⟩ | ⟨g', cap', cur, hv, _, hg, _⟩
    · simp at hv
    · simp only [Value.slice.injEq, Option.some.injEq, Addr.mk.injEq] at hv
      obtain ⟨⟨rfl, -⟩, -, rfl⟩ := hv
      exact Lib.frozen_of_heap hg j
theorem own_i3 {w : World} {base cap : Nat} {a : Option Addr} {L : List I3} (h : w.ownsRow base 41 3 (.slice a L.length cap) L.length (i3L L)) : SlIns w a L.length (insF L) := by
  by_cases h0 : L.length = 0
  · exact .inl h0
  · rcases h.2 with ⟨hv, h1⟩ | ⟨g, cap', cur, hv, hb, hg, _⟩
    · exact absurd h1 h0
    · simp only [Value.slice.injEq] at hv
      obtain ⟨rfl, -, rfl⟩ := hv
      refine .inr ⟨g, 0, rfl, (Array.getElem?_eq_some_iff.1 hg).1, fun i hi => ?_⟩
      have hx : L[i]? = some L[i] := List.getElem?_eq_getElem hi
      have c := fun j (hj : j < 3) u (hu : (i3V L[i])[j]? = some u) => (own_cellP h (j := i * 3 + j) (u := u) (by rw [i3L_at L i j hj L[i] hx]; exact hu)).1
      have e : insF L i = ⟨L[i].1, ⟨L[i].2.1.toArray⟩, L[i].2.2⟩ := by unfold insF; rw [hx]
      rw [e]
      refine ⟨?_, ?_, ?_⟩
      · rw [Nat.zero_add]; exact c 0 (by omega) _ rfl
      · rw [Nat.zero_add]; exact c 1 (by omega) _ rfl
      · rw [Nat.zero_add]; exact c 2 (by omega) _ rfl
/-- The row's own block (or none). -/
def MkP (w : World) (a : Option Addr) (n G : Nat) : Prop := n = 0 ∨ (a = some ⟨G, 0, none⟩ ∧ Cells w G 0 (n * 3) (markIns 1))
theorem MkP.below {w w' : World} {a : Option Addr} {n G B : Nat} (h : MkP w a n G) (hb : Below B w w') (hB : w.heap.size ≤ B) : MkP w' a n G := by
  rcases h with h | ⟨h1, h2⟩
  · exact .inl h
  · exact .inr ⟨h1, h2.below hb (Nat.lt_of_lt_of_le h2.1 hB)⟩

set_option maxRecDepth 100000 in
set_option maxHeartbeats 1000000 in
theorem markP_any (a : Option Addr) (cap base : Nat) (L : List I3) (w : World) (hn : (L.length : Int) ≤ 200) (h : w.ownsRow base 41 3 (.slice a L.length cap) L.length (i3L L)) (hb : base ≤ w.heap.size) :
    Calls Tryz.prog 9 #[.agg #[.slice a L.length cap], .int .i64 1] w fun e w' => e = .returned (.int .i64 ((1 + L.length * 3 : Nat) : Int)) ∧ ∃ G, base ≤ G ∧ (a = some ⟨G, 0, none⟩ ∨ G = w.heap.size) ∧ MkP w' a L.length G ∧ Within G (G + 1) w w' := by
  have A0 := hide ((Below.refl w.heap.size w).alloc (Nat.le_refl _) (.cells #[.slice a L.length cap] 24))
  by_cases h0 : L.length = 0
  · rw [h0] at A0 ⊢
    clear h h0 hn
    go_enter Tryz.func9, Tryz.ntmps9
    go_wp2_with (go_at_call 21; refine (markInsS_nil a cap 1 _).mono ?_; rintro e w' ⟨rfl, rfl⟩)
    go_ret
    exact ⟨rfl, w.heap.size, hb, .inr rfl, .inl rfl, Within.of_below A0.out (Nat.le_refl _)⟩
  · rcases h.2 with ⟨hv, h1⟩ | ⟨g, cap', cur, hv, hbg, hg, _⟩
    · exact absurd h1 h0
    · simp only [Value.slice.injEq] at hv
      obtain ⟨rfl, -, rfl⟩ := hv
      have hgl := (Array.getElem?_eq_some_iff.1 hg).1
      have hC : Cells w g 0 (L.length * 3) (fun j => (i3L L)[j]?.getD undef) := by
        refine ⟨hgl, fun j hj => ?_⟩
        have hl : j < (i3L L).length := by rw [i3L_len]; exact hj
        rw [Nat.zero_add]
        show _ = some ((i3L L)[j]?.getD undef) ∧ _
        rw [List.getElem?_eq_getElem hl]
        exact own_cellP h (List.getElem?_eq_getElem hl)
      have HC := hide (hC.below A0.out hgl)
      clear h hC hg h0
      have MR := hide (fun V (F : Nat → Value) (hV : Cells V g 0 (L.length * 3) F) => markInsS_row g 0 L.length cap 1 F V (by omega) (by omega) (by omega) hV)
      obtain ⟨n, hn2⟩ : ∃ n, n = L.length := ⟨_, rfl⟩
      rw [← hn2] at A0 HC MR hn ⊢
      clear hn2
      go_enter Tryz.func9, Tryz.ntmps9
      go_wp2_with fail
      refine (MR.out _ _ HC.out).mono ?_
      rintro e w2 ⟨rfl, hc, hW⟩
      have C2 := hide hc
      have W2 : Hid (Within g (g + 1) w w2) := (Within.of_below A0.out (Nat.le_refl _)).trans hW
      clear hc hW
      go_wp2
      go_ret
      exact ⟨rfl, g, hbg, .inl rfl, .inr ⟨rfl, C2.out⟩, W2.out⟩

set_option maxRecDepth 100000 in
set_option maxHeartbeats 1000000 in
theorem heldP_any (a : Option Addr) (cap n G : Nat) (w : World) (hn : (n : Int) ≤ 200) (h : MkP w a n G) :
    Calls Tryz.prog 10 #[.agg #[.slice a n cap], .int .i64 1] w fun e w' => e = .returned (.int .i64 ((1 + n * 3 : Nat) : Int)) ∧ Below w.heap.size w w' := by
  have A0 := hide ((Below.refl w.heap.size w).alloc (Nat.le_refl _) (.cells #[.slice a n cap] 24))
  have H0 := hide (h.below A0.out (Nat.le_refl _))
  rcases h with rfl | ⟨rfl, hC⟩
  · go_enter Tryz.func10, Tryz.ntmps10
    go_wp2_with (go_at_call 22; refine (heldInsS_nil a cap 1 _).mono ?_; rintro e w' ⟨rfl, rfl⟩)
    go_ret
    exact ⟨rfl, A0.out⟩
  · have HC := hide (hC.below A0.out hC.1)
    clear hC H0
    have MR := hide (fun V hV => heldInsS_row G 0 n cap 1 V (by omega) (by omega) (by omega) hV)
    have hnn : ¬ ((1 + n * 3 : Nat) : Int) < 0 := by omega
    go_enter Tryz.func10, Tryz.ntmps10
    go_wp2_with fail
    refine (MR.out _ HC.out).mono ?_
    rintro e w2 ⟨rfl, hB⟩
    have B2 := hide (A0.out.trans (hB.mono A0.out.size))
    clear hB
    generalize hq : ((1 + n * 3 : Nat) : Int) = q at hnn ⊢
    have HQ := hide hq
    clear hq
    go_wp2
    go_ret
    exact ⟨by show Ending.returned (.int .i64 q) = _; rw [HQ.out], B2.out⟩

set_option maxRecDepth 100000 in
set_option maxHeartbeats 1000000 in
theorem eqFault_any (x y : Int) (w : World) :
    Calls Tryz.prog 8 #[.agg #[.int .i64 x, .int .i64 y], .agg #[.int .i64 x, .int .i64 y]] w fun e w' => e = .returned (.bool true) ∧ Below w.heap.size w w' := by
  go_enter Tryz.func8, Tryz.ntmps8
  go_wp2
  go_ret
  exact ⟨rfl, ((Below.refl _ _).alloc (Nat.le_refl _) _).alloc (by simp) _⟩

end Go.Proofs.YtpefignfaooonaaGreatDoor.Vp
