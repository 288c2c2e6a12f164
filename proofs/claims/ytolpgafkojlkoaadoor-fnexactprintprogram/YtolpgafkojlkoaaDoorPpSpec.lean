/-
  spec.PrintProgram.
-/
import Derived.Test.YtolpgafkojlkoaaDoorVpSpec
import Derived.Test.YtolpgafkojlkoaaDoorPpLine
import Derived.Test.YtolpgafkojlkoaaDoorPpProg
namespace Go.Proofs.YtolpgafkojlkoaaDoor.Vp
open Go.RowKit

set_option linter.unusedSimpArgs false in
set_option maxRecDepth 100000 in
set_option maxHeartbeats 2000000 in
theorem specPrint_row (b off n cap : Nat) (f : Nat → Ins) (w : World) (hn : n ≤ 1048576) (hb : b < w.heap.size) (hf : ∀ i, i < n → AtIns w b off i (f i)) (hs : ∀ i, i < n → (f i).s.size ≤ maxLen) :
    Calls Tryd.prog 28 #[.agg #[.slice (some ⟨b, off, none⟩) n cap]] w fun e w' => e = .returned (.string ⟨(printed f n).toArray⟩) ∧ Below w.heap.size w w' := by
  have HF := hide hf
  have HS := hide hs
  clear hf hs
  have B0 : Hid (Below w.heap.size w (w.alloc (.cells #[.slice (some ⟨b, off, none⟩) n cap] 57))) := (Below.refl _ _).alloc (Nat.le_refl _) _
  go_enter Tryd.func28, Tryd.ntmps28
  go_wp2_with fail
  refine (specValid_row b off n cap f _ hn (by simp; omega) (fun i hi => (HF.out i hi).below B0.out hb) HS.out).mono ?_
  rintro e w1 ⟨rfl, hB⟩
  have B1 := hide (B0.out.trans (hB.mono (by simp)))
  have hc0 : w1.cell? ⟨w.heap.size, 0, none⟩ = some (.slice (some ⟨b, off, none⟩) n cap) := by
    rw [hB.cell (p := ⟨w.heap.size, 0, none⟩) (by simp)]; simp
  have hsz : w.heap.size + 1 ≤ w1.heap.size := by have := hB.size; simpa using this
  clear hB
  cases hv : valid f n with
  | false =>
    have HP : Hid (printed f n = []) := by
      show printed f n = []
      simp [printed, hv]
    clear hv
    go_wp2
    go_ret
    exact ⟨ret_str (by rw [HP.out]), B1.out⟩
  | true =>
    have HP : Hid (printed f n = progTo f n) := by
      show printed f n = progTo f n
      simp [printed, hv]
    obtain ⟨ok, h1, h2⟩ := valid_parts hv
    have OK := hide ok
    clear hv ok
    go_wp2
    go_loopw [3, 4] (fun v i wr => ∃ k : Nat, k ≤ n ∧ i = .int .i64 k ∧ Bs wr w1.heap.size v (progTo f k) ∧ Below w1.heap.size w1 wr) (fun _ i _ => n - (intOf i).toNat)
    case atStart => exact ⟨0, by omega, rfl, Bs.lit w1 _ [] (Nat.le_refl _) (by simp) _ rfl, (Below.refl _ _).alloc (Nat.le_refl _) _⟩
    case round =>
      obtain ⟨k, hk, rfl, hO, hB⟩ := hrel
      have HB := hide hB
      have HO := hide hO
      have hszr : w1.heap.size ≤ wr.heap.size := hB.size
      have hcr : wr.cell? ⟨w.heap.size, 0, none⟩ = some (.slice (some ⟨b, off, none⟩) n cap) := by
        rw [hB.cell (p := ⟨w.heap.size, 0, none⟩) (by simp; omega), hc0]
      have hlen := progTo_le OK.out k hk
      clear hB hO
      by_cases hlt : k < n
      · obtain ⟨c0, c1, c2⟩ := (HF.out k hlt).below (B1.out.trans (HB.out.mono (by omega))) hb
        have hline := lineB_le _ _ _ (ok_at OK.out hlt)
        go_wp2_with fail
        refine (l1Line_any _ _ _ _ (ok_at OK.out hlt)).mono ?_
        rintro e wL ⟨rfl, hBL⟩
        have HL := hide (HO.out.below hBL (Nat.le_refl _))
        have HBL := hide (HB.out.trans (hBL.mono hszr))
        have hszL : w1.heap.size ≤ wL.heap.size := HBL.out.size
        clear hBL c0 c1 c2
        go_wp2_with (at_builtin; refine wp_app_str rfl _ _ rfl w1.heap.size _ (progTo f k) rfl ?h1 (lineB (f k).op (f k).s.data.toList (f k).n) rfl ?h3 ?h4 ?_)
        case h1 => exact HL.out
        case h3 => omega
        case h4 => exact hszL
        intro v1 wA hv1 hgA
        have HV1 := hide hv1
        have HBA : Hid (Below w1.heap.size w1 wA) := HBL.out.grown hgA hszL (fun x hx => (World.ownsRow.lt HL.out x hx).1)
        have hszA : w1.heap.size ≤ wA.heap.size := HBA.out.size
        clear hv1 hgA
        go_wp2_with (at_builtin; refine wp_app rfl _ _ rfl w1.heap.size _ (progTo f k ++ lineB (f k).op (f k).s.data.toList (f k).n) rfl ?h1 ⟨wA.heap.size, 0, none⟩ 1 [10] rfl ?h2 ?h3 ?h4 ?_)
        case h1 => exact HV1.out.below ((Below.refl _ _).alloc (Nat.le_refl _) _) (Nat.le_refl _)
        case h2 => exact one_atP (by simp)
        case h3 => simp only [List.length_append, List.length_cons, List.length_nil]; omega
        case h4 => simp; omega
        intro v2 wZ hv2 hgZ
        have HV2 := hide hv2
        have HBZ : Hid (Below w1.heap.size w1 wZ) := (HBA.out.alloc hszA _).grown hgZ (by simp; omega) (fun x hx => (World.ownsRow.lt HV1.out x hx).1)
        clear hv2 hgZ
        go_wp2
        exact ⟨⟨k + 1, by omega, by go_num, by rw [progTo, List.append_assoc]; exact HV2.out, HBZ.out⟩, by simp [intOf]; omega⟩
      · have e : k = n := by omega
        subst e
        have hcv := conv_row wr _ _ _ HO.out (progTo_ne (by omega))
        rw [← HP.out] at hcv
        go_wp2
        go_ret
        exact ⟨rfl, B1.out.trans (HB.out.mono (by omega))⟩

end Go.Proofs.YtolpgafkojlkoaaDoor.Vp
