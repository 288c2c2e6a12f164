/-
  spec: l3Order, CheckAccount.
-/
import Derived.Test.YtolpgafkojlkoabDoorCaSpec4
import Derived.Deep.DeepCutAuto
import Derived.Deep.QuietTactic
import Derived.BigQuiet
namespace Go.Proofs.YtolpgafkojlkoabDoor.Vp
open Go.RowKit

set_option maxRecDepth 100000 in
set_option maxHeartbeats 4000000 in
theorem l3Order_any (b off n cap : Nat) (f : Nat → Deed) (w : World) (hA : Ahead f n) (hn1 : 1 ≤ n) (hn : (n : Int) ≤ 400) (hf : RowDeed w b off n f) (hlk : ∀ p, p < n → (f p).linksN ≤ 200) :
    Calls Tryd.prog 11 #[.agg #[.slice (some ⟨b, off, none⟩) n cap], .int .i64 ((n : Int) - 1)] w fun e w' => ∃ H ov, e = .returned (.pointer (some ⟨H, 0, none⟩)) ∧ H < w'.heap.size ∧ w'.cell? ⟨H, 2, none⟩ = some ov ∧ w'.ownsRow w.heap.size 3 1 ov (listing f n).length ((listing f n).map fun z : Nat × Nat => Value.int .i64 (z.1 : Int)) ∧ w'.cell? ⟨H, 3, none⟩ = some (.int .i64 (deepTo f (-1) (listing f n))) ∧ Below w.heap.size w w' := by
  have k0 : (w.alloc (.cells #[.slice (some ⟨b, off, none⟩) n cap] 30)).cell? ⟨w.heap.size, 0, none⟩ = some (.slice (some ⟨b, off, none⟩) n cap) := by simp
  have hll := listing_len hA hn1
  have hC := slist_any w (w.heap.size + 1 + 1 + 1) b off n cap (w.heap.size + 1 + 1) (w.heap.size + 1) f hA hn hf hlk n (n - 1) 0 (fun _ => false) (.slice none 0 0) [] (-1) _ (by omega) (by omega) (by omega) sls_new rfl (by have := hll; unfold listing at this; simp; omega)
  rw [show ((n - 1 : Nat) : Int) = (n : Int) - 1 by omega] at hC
  have HC := hide hC
  have hmk := fun w => mkBool n (by omega) w
  clear hC hA hf hlk
  have HW : Hid (w.heap.size + 1 + 1 + 1 = (((w.alloc (.cells #[.slice (some ⟨b, off, none⟩) n cap] 30)).alloc (.cells (zerosBool n) 4)).alloc (.cells #[.slice (some ⟨b, off, none⟩) n cap, .slice (some ⟨w.heap.size + 1, 0, none⟩) n n, .slice none 0 0, .int .i64 (-1)] 47)).drew.heap.size) := by
    show _ = _
    simp
  go_enter Tryd.func11, Tryd.ntmps11
  go_wp2_with fail
  go_region_with fail
  all_goals
    clear hmk k0
    go_wp2_with fail
    refine HC.mono ?_
    rintro e w2 ⟨rfl, ov, hS, hK⟩
    have HS := hide hS
    clear hS hK
    go_wp2
    go_ret
    refine ⟨w.heap.size + 1 + 1, ov, rfl, ?_, HS.c2.1, ?_, HS.c3.1, HS.low⟩
    · have := HS.hz
      omega
    · have h := own_mono HS.ord (base' := w.heap.size) (by omega)
      simp only [List.nil_append, List.map_map, List.length_map] at h
      exact h

end Go.Proofs.YtolpgafkojlkoabDoor.Vp
