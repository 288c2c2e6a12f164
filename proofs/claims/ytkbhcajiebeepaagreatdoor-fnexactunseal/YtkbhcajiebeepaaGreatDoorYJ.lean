/-
  Put together of: FoLine.
-/
import Derived.Test.YtkbhcajiebeepaaGreatDoorYI
import Derived.Deep.RegionHeld3

/-
  impl: the writer's line.
-/
namespace Go.Proofs.YtkbhcajiebeepaaGreatDoor.Vp
open Go.RowKit

abbrev joined (xs : List ByteArray) : List UInt8 := Lib.join (xs.map (·.data.toList)) [32]

set_option maxRecDepth 100000 in
set_option maxHeartbeats 2000000 in
theorem line_any (w0 : World) (b : Nat) (l : List UInt8) (g c : Nat) (xs : List ByteArray) (w : World) (hb : Below w0.heap.size w0 w) (h : Bw w w0.heap.size b l) (hg : g < w.heap.size) (hcells : ∀ (j : Nat) x, xs[j]? = some x → w.cell? ⟨g, 0 + j, none⟩ = some (.string x)) (hcap : xs.length ≤ c) (hn : xs.length ≤ 10) (hlen : l.length + (joined xs).length + 1 ≤ 140737488355328) :
    Calls Tryz.prog 33 #[.pointer (some ⟨b, 0, none⟩), .slice (some ⟨g, 0, none⟩) xs.length c] w fun e w' => e = .returned (.tuple #[]) ∧ Bw w' w0.heap.size b (l ++ joined xs ++ [10]) ∧ Below w0.heap.size w0 w' ∧ Kp b w w' := by
  have JN := hide (fun W (hB : Below w.heap.size w W) => Tryz.strings_Join g 0 c xs ⟨#[32]⟩ W (fun j x hx => (hB.cell (p := ⟨g, 0 + j, none⟩) hg).trans (hcells j x hx)) (Nat.lt_of_lt_of_le hg hB.size) (by omega) hcap (by show (joined xs).length ≤ _; omega))
  have H := hide h
  have HB := hide hb
  have hs := hb.size
  have hlt := h.lt
  clear hcells h hb
  obtain ⟨T, hT⟩ : ∃ T, T = joined xs := ⟨_, rfl⟩
  have JN2 : Hid (∀ W, Below w.heap.size w W → Calls Tryz.prog 63 #[.slice (some ⟨g, 0, none⟩) xs.length c, .string ⟨#[32]⟩] W fun e w' => e = .returned (.string ⟨T.toArray⟩) ∧ Below W.heap.size W w') := by
    rw [hT]; exact JN.out
  rw [← hT] at hlen ⊢
  clear hT JN
  go_enter Tryz.func33, Tryz.ntmps33
  go_wp2_with fail
  go_region_with (first
    | (go_at_call 63; refine (JN2.out _ ?_).mono ?_; (first | exact Below.refl _ _ | exact (Below.refl _ _).drew); rintro e w1 ⟨rfl, hB1⟩; have B1 : Hid (Below w.heap.size w w1) := ⟨hB1.os, hB1.tape, hB1.output, hB1.size, hB1.block⟩; have H1 := hide (H.out.below B1.out (Nat.le_refl _)); have K1 : Hid (Kp b w w1) := kp_of_below B1.out; clear hB1)
    | (go_at_call 62; refine (writeStringW_any w0.heap.size b l T _ H1.out (by omega) (Nat.le_trans hs B1.out.size)).mono ?_; rintro e w2 ⟨⟨x, rfl⟩, hD2, hB2, hK2⟩; have D2 := hide hD2; have K2 := hide (K1.out.trans hK2); have B2 := hide ((HB.out.trans (B1.out.mono hs)).trans hB2); clear hD2 hB2 hK2))
  all_goals
    go_simp
    go_wp2_with fail
    refine (writeByteW_any w0.heap.size b _ 10 _ D2.out (by simp only [List.length_append]; omega) B2.out.size).mono ?_
    rintro e w3 ⟨rfl, hD3, hB3, hK3⟩
    have K3 := hide (K2.out.trans hK3)
    have D3 := hide hD3
    have B3 := hide (B2.out.trans hB3)
    clear hD3 hB3 hK3
    go_wp2
    go_end0
    exact ⟨rfl, D3.out, B3.out, K3.out⟩

end Go.Proofs.YtkbhcajiebeepaaGreatDoor.Vp
