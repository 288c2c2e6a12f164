/-
  Data: Result: sizes, copies, comparisons; its cells hold slices. Written by tools/nest.py.
-/
import Derived.Test.YtolpgafkojlkoaaDoorDStr
import Derived.Test.YtolpgafkojlkoaaDoorDResB
namespace Go.Proofs.YtolpgafkojlkoaaDoor.Vp
open Go.RowKit

set_option maxHeartbeats 1000000 in
theorem szResult_any (x : Result) (a0 : Option Addr) (cap0 : Nat) (left : Int) (w : World) (hz : SizedResult x) (hv0 : SlStr w a0 x.chainN x.chain) (l0 : 0 ≤ left) (l1 : left ≤ 1048576) :
    Calls Tryd.prog 8 #[.agg #[.int .i64 x.code, .string x.text, .slice a0 x.chainN cap0], .int .i64 left] w fun e w' => ∃ r : Int, e = .returned (.int .i64 r) ∧ -1 ≤ r ∧ r ≤ left ∧ (0 ≤ r → FitsResult x) ∧ Below w.heap.size w w' := by
  have V0 := hide hv0
  clear hv0
  have ztext := hz.1
  unfold maxLen at ztext
  have Sz := hide hz
  clear hz
  have B0 := hide ((Below.refl w.heap.size w).alloc (Nat.le_refl _) (.cells #[.int .i64 x.code, .string x.text, .slice a0 x.chainN cap0] 24))
  go_enter Tryd.func8, Tryd.ntmps8
  go_wp2_with (first | (go_at_call 30; refine (szStringS_any a0 x.chainN cap0 x.chain _ _ ?_ ?_ (Sz.out.2).1 ?_ (Sz.out.2).2).mono ?_; omega; omega; exact V0.out.below B0.out (Nat.le_refl _); rintro e w1 ⟨r0, rfl, l0, m0, n0, hB0⟩; have B1 := hide (B0.out.trans (hB0.mono B0.out.size)); have bc0 := (bcell hB0).1; clear hB0))
  all_goals go_ret
  all_goals first
    | exact ⟨-1, rfl, by omega, by omega, fun _ => by omega, by first | exact B1.out | exact B0.out⟩
    | exact ⟨_, rfl, by omega, by omega, fun _ => (show x.chainN ≤ 1048576 from by have := n0 (by omega); omega), B1.out⟩

set_option maxHeartbeats 2000000 in
theorem toResult_any (x : Result) (a0 : Option Addr) (cap0 : Nat) (w : World) (hfit : FitsResult x) (hv0 : SlStr w a0 x.chainN x.chain) :
    Calls Tryd.prog 10 #[.agg #[.int .i64 x.code, .string x.text, .slice a0 x.chainN cap0]] w fun e w' => ∃ g0, e = .returned (.agg #[.int .i64 x.code, .string x.text, .slice (some ⟨g0, 0, none⟩) x.chainN x.chainN]) ∧ RowStr w' g0 0 x.chainN x.chain ∧ w.heap.size ≤ g0 ∧ Below w.heap.size w w' := by
  have V0 := hide hv0
  clear hv0
  have hfit := hide hfit
  have A0 : Hid (Below w.heap.size w (((w.alloc (.cells #[.int .i64 x.code, .string x.text, .slice a0 x.chainN cap0] 24)).alloc (.cells #[.int .i64 0, .string ⟨#[]⟩, .slice none 0 0] 27)).alloc (.cells #[.int .i64 x.code, .string x.text, .slice none 0 0] 27))) := (((Below.refl _ _).alloc (Nat.le_refl _) _).alloc (by simp) _).alloc (by first | (simp; omega) | simp) _
  go_enter Tryd.func10, Tryd.ntmps10
  go_wp2_with fail
  refine (toStringS_any a0 x.chainN cap0 x.chain _ hfit.out (V0.out.below A0.out (Nat.le_refl _))).mono ?_
  rintro e w1 ⟨g0, rfl, hR0, hg0, hB1⟩
  have R0 := hide hR0
  obtain ⟨hc1, hz1⟩ := bcell hB1
  have B1 := hide (A0.out.trans (hB1.mono A0.out.size))
  have hs1 : w.heap.size + 1 + 1 < w1.heap.size := by have := hB1.size; simp at this; omega
  have hu1 : w.heap.size + 1 < w1.heap.size := by omega
  have ht1 : w.heap.size < w1.heap.size := by omega
  have D1 := hide hB1
  clear hR0 hB1
  simp at hg0
  have q0 : w1.cell? ⟨w.heap.size + 1, 0, none⟩ = some (.int .i64 0) := by
    rw [D1.out.cell (p := ⟨w.heap.size + 1, 0, none⟩) (by first | (simp; omega) | simp)]
    simp [go_sem]
  have q1 : w1.cell? ⟨w.heap.size + 1, 1, none⟩ = some (.string ⟨#[]⟩) := by
    rw [D1.out.cell (p := ⟨w.heap.size + 1, 1, none⟩) (by first | (simp; omega) | simp)]
    simp [go_sem]
  have q2 : w1.cell? ⟨w.heap.size + 1, 2, none⟩ = some (.slice none 0 0) := by
    rw [D1.out.cell (p := ⟨w.heap.size + 1, 2, none⟩) (by first | (simp; omega) | simp)]
    simp [go_sem]
  go_wp2
  exact bodyPost_ret (v := .agg #[.int .i64 x.code, .string x.text, .slice (some ⟨g0, 0, none⟩) x.chainN x.chainN]) (by simp [results, Tryd.results10, go_sem, q0, q1, q2]) rfl ⟨g0, rfl, ((((R0.out).setOther _ (by first | (simp; omega) | simp) _).setOther _ (by first | (simp; omega) | simp) _).setOther _ (by first | (simp; omega) | simp) _).setOther _ (by first | (simp; omega) | simp) _, by omega, ((((B1.out).setCell (by first | (simp; omega) | simp) _).setCell (by first | (simp; omega) | simp) _).setCell (by first | (simp; omega) | simp) _).setCell (by first | (simp; omega) | simp) _⟩

end Go.Proofs.YtolpgafkojlkoaaDoor.Vp
