/-
  impl: nameAgain.
-/
import Derived.Test.YtolpgafkojlkoabDoorCaDeed
import Derived.Maps.OwnSet
import Derived.Maps.Views
import Derived.StringKeys
namespace Go.Proofs.YtolpgafkojlkoabDoor.Vp
open Go.RowKit

theorem new_has {f : Nat → Deed} {k : Nat} {D : DataW Unit} (hD : Maps.IsMap D) (h : ∀ p, Maps.has D (.string (f p).name.data.toList) = !nameNew f p k) (d : DataW Unit) : ∀ p, Maps.has (D.put (.string (f k).name.data.toList) d) (.string (f p).name.data.toList) = !nameNew f p (k + 1) := by
  intro p
  rw [nameNew, Bool.not_and, ← h p, Bool.not_not]
  by_cases e : (f p).name.data.toList = (f k).name.data.toList
  · rw [e, Maps.has_put_same hD (by simp [WideAt.IsKeyLit])]
    simp [ByteArray.toList_eq, e]
  · rw [Maps.has_put_other (by simpa using e)]
    have : ((f k).name.toList == (f p).name.toList) = false := by simpa [ByteArray.toList_eq] using fun h => e (by rw [h])
    rw [this]
    simp

set_option maxRecDepth 100000 in
set_option maxHeartbeats 4000000 in
theorem nameAgain_any (b off n cap : Nat) (f : Nat → Deed) (w : World) (hn : (n : Int) ≤ 400) (hf : RowDeed w b off n f) (hs : ∀ i, i < n → (f i).name.size ≤ maxLen) :
    Calls Tryd.prog 14 #[.agg #[.slice (some ⟨b, off, none⟩) n cap]] w fun e w' => e = .returned (.int .i64 (firstNo (fun p => nameNew f p p) n)) ∧ Below w.heap.size w w' := by
  have HF := hide hf
  have HS := hide hs
  clear hf hs
  have A0 := hide (((Below.refl w.heap.size w).alloc (Nat.le_refl _) (.cells #[.slice (some ⟨b, off, none⟩) n cap] 30)).alloc (by simp) (.map #[] 0))
  have M0 := hide (World.ownsMap_made (w.alloc (.cells #[.slice (some ⟨b, off, none⟩) n cap] 30)) Tryd.prog 9 (plainElem (H := Unit) Tryd.prog 3))
  have hz : (w.alloc (.cells #[.slice (some ⟨b, off, none⟩) n cap] 30)).heap.size = w.heap.size + 1 := by simp
  rw [hz] at M0
  clear hz
  obtain ⟨r, hr⟩ : ∃ r, r = firstNo (fun p => nameNew f p p) n := ⟨_, rfl⟩
  rw [← hr]
  have HR := hide hr
  clear hr
  have hmm := @run_makeMap Tryd.prog
  go_enter Tryd.func14, Tryd.ntmps14
  go_wp2
  clear hmm
  generalize World.alloc (World.alloc w _) _ = W at A0 M0 ⊢
  obtain ⟨mb, hmb⟩ : ∃ mb, mb = w.heap.size + 1 := ⟨_, rfl⟩
  rw [← hmb] at M0 ⊢
  have HMB := hide hmb
  clear hmb
  go_loopw [12] (fun i wr => ∃ (k : Nat) (D : DataW Unit), k ≤ n ∧ i = .int .i64 k ∧ Hid (∀ j, j < k → nameNew f j j = true) ∧ Hid (wr.ownsMap Tryd.prog 9 (plainElem (H := Unit) Tryd.prog 3) mb k D) ∧ Hid (∀ p, Maps.has D (.string (f p).name.data.toList) = !nameNew f p k) ∧ Hid (Below w.heap.size w wr)) (fun i _ => n - (intOf i).toNat)
  case atStart => exact ⟨0, _, by omega, rfl, fun j hj => absurd hj (Nat.not_lt_zero _), M0, fun p => rfl, A0⟩
  case round =>
    obtain ⟨k, D, hk, rfl, HK, HM, HH, HB⟩ := hrel
    by_cases hlt : k < n
    · obtain ⟨p0, p1, p2, p3, ⟨a0, cap0, p4, q4⟩, ⟨a1, cap1, p5, q5⟩⟩ := (HF.below HB (Nat.le_refl _)).2 k hlt
      clear q4 q5
      have hkey := WideMaps.keyOf_string_mk (P := Tryd.prog) (k := 9) Tryd.underlying9 (HS k hlt)
      have HKEY := hide hkey
      have HHK := hide (HH k)
      clear hkey
      cases hnew : nameNew f k k with
      | false =>
        have hhas : Maps.has D (.string (f k).name.data.toList) = true := by rw [HHK.out, hnew]; rfl
        have HHS := hide hhas
        obtain rfl : r = k := by rw [HR.out]; exact firstNo_at hlt hnew HK
        clear hnew
        have B1 := hide (HB.alloc HB.size (.cells #[.string (f k).name, .int .i64 (f k).kind, .int .i64 (f k).code, .string (f k).text, .slice a0 (f k).actN cap0, .slice a1 (f k).linksN cap1] 41))
        go_wp2_with (at_lookup; refine wpList_lookup_own_ok_int _ rfl _ _ 63 rfl 9 3 .i64 (Maps.string_keyed Tryd.underlying9) Tryd.underlying63 Tryd.underlying3 (Tryd.zeroValue3 _) mb k D rfl (HM.alloc _) _ _ rfl HKEY ?_; intro c hat hwc; clear hat hwc)
        go_ret
        exact ⟨rfl, B1⟩
      | true =>
        have hhas : Maps.has D (.string (f k).name.data.toList) = false := by rw [HHK.out, hnew]; rfl
        have HNW := hide hnew
        clear hnew
        have hwf : (Lit.int .i64 (k : Int)).wf = true := by simp only [Lit.wf, IntKind.min, IntKind.max, IntKind.signed, IntKind.bits, Bool.and_eq_true, decide_eq_true_eq, if_true]; omega
        have HWF := hide hwf
        clear hwf
        go_wp2_with (first
          | (at_lookup; refine wpList_lookup_own_ok_int _ rfl _ _ 63 rfl 9 3 .i64 (Maps.string_keyed Tryd.underlying9) Tryd.underlying63 Tryd.underlying3 (Tryd.zeroValue3 _) mb k D rfl (HM.alloc _) _ _ rfl HKEY ?_; intro c hat hwc; clear hat hwc)
          | (at_mapUpdate; refine wpList_mapUpdate_own _ rfl _ _ _ 63 rfl 9 3 (Maps.string_keyed Tryd.underlying9) Tryd.underlying63 _ mb k D rfl (HM.alloc _) (by unfold maxLen; omega) _ _ _ rfl rfl HKEY _ [] (plainElem_int Tryd.underlying3 HWF) ?_; intro w1 hown1 hgrow1; have M1 := hide hown1; have B1 := hide (Below.grown (HB.alloc HB.size (.cells #[.string (f k).name, .int .i64 (f k).kind, .int .i64 (f k).code, .string (f k).text, .slice a0 (f k).actN cap0, .slice a1 (f k).linksN cap1] 41)) hgrow1 (by have := HB.size; simp; omega) (fun j e => by cases e; have := HMB.out; omega)); clear hown1 hgrow1))
        exact ⟨⟨k + 1, _, by omega, by go_num, fun j hj => by
          by_cases e : j = k
          · subst e; exact HNW
          · exact HK j (by omega), M1, new_has HM.isMap HH _, B1⟩, by simp [intOf]; omega⟩
    · have e : n = k := by omega
      subst e
      obtain rfl : r = -1 := by rw [HR.out]; exact firstNo_all HK
      go_wp2
      go_ret
      exact ⟨rfl, HB⟩

end Go.Proofs.YtolpgafkojlkoabDoor.Vp
