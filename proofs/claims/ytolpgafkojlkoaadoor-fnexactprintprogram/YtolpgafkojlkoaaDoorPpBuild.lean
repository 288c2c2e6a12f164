/-
  strings.Builder: WriteString.
-/
import Derived.Test.YtolpgafkojlkoaaDoorPpBd
namespace Go.Proofs.YtolpgafkojlkoaaDoor.Vp
open Go.RowKit

set_option maxRecDepth 100000 in
set_option maxHeartbeats 2000000 in
theorem writeString_any (B b : Nat) (l l2 : List UInt8) (w : World) (h : Bd w B b l) (hlen : l.length + l2.length ≤ 140737488355328) (hBw : B ≤ w.heap.size) :
    Calls Tryd.prog 65 #[.pointer (some ⟨b, 0, none⟩), .string ⟨l2.toArray⟩] w fun e w' => (∃ x, e = .returned x) ∧ Bd w' B b (l ++ l2) ∧ Below B w w' := by
  go_enter Tryd.func65, Tryd.ntmps65
  go_wp2_with (go_at_call 87; refine (copyCheck_any B b _ _ h).mono ?_)
  rintro e w1 ⟨rfl, h1, hb1⟩
  have hl1 := h1.lt
  obtain ⟨hB, v, hbk, hown, hne⟩ := h1
  have c0 : w1.cell? ⟨b, 0, none⟩ = some (.pointer (some ⟨b, 0, none⟩)) := by rw [Lib.cell_of_heap hbk]; rfl
  have c1 : w1.cell? ⟨b, 1, none⟩ = some v := by rw [Lib.cell_of_heap hbk]; rfl
  have hown1 : Bs w1 B v l := by
    rw [Lib.byteCells_length] at hown
    exact hown
  have HO := hide hown1
  have HK := hide hbk
  have HN := hide hne
  have HB1 := hide hb1
  have hs1 : w.heap.size ≤ w1.heap.size := hb1.size
  clear hown hown1 hbk hne hb1
  go_wp2_with (at_builtin; refine wp_app_str rfl _ _ rfl B _ l rfl ?h1 l2 rfl ?h3 ?h4 ?_)
  case h1 => exact HO.out
  case h3 => omega
  case h4 => omega
  intro v' w2 hv2 hg2
  have hb2 : w2.heap[b]? = some (.cells #[.pointer (some ⟨b, 0, none⟩), v] 99 (0, 0)) := by
    rw [hg2.block b hl1 (fun e => HN.out e.symm)]
    exact HK.out
  have d0 : w2.cell? ⟨b, 0, none⟩ = some (.pointer (some ⟨b, 0, none⟩)) := by rw [Lib.cell_of_heap hb2]; rfl
  have d1 : w2.cell? ⟨b, 1, none⟩ = some v := by rw [Lib.cell_of_heap hb2]; rfl
  have f1 : w2.frozen? ⟨b, 1, none⟩ = false := Lib.frozen_of_heap hb2 1
  obtain ⟨ao, n', cap, rfl⟩ : ∃ ao n' cap, v' = .slice ao n' cap := by
    rcases hv2.2 with ⟨hv, _⟩ | ⟨g, cap, cur, hv, _⟩
    · exact ⟨_, _, _, hv⟩
    · exact ⟨_, _, _, hv⟩
  have HB2 := hide hb2
  have HV2 := hide hv2
  have HG2 := hide hg2
  clear hb2 hv2 hg2
  go_wp2
  go_ret2
  refine ⟨⟨_, rfl⟩, .inr (Lib.BuilderAt.put (T := 99) (e := 5) hB HB2.out (bs' := Lib.byteCells (l ++ l2)) ?_ (by decide)), ?_⟩
  · have := HV2.out
    unfold Bs at this
    rw [Lib.byteCells_length]
    exact this
  · exact (HB1.out.grown HG2.out (by omega) (fun k hk => (World.ownsRow.lt HO.out k hk).1)).setCell (p := ⟨b, 1, none⟩) hB _

end Go.Proofs.YtolpgafkojlkoaaDoor.Vp
