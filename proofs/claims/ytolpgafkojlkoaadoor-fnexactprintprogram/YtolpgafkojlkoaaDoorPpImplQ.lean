/-
  impl.quote.
-/
import Derived.Test.YtolpgafkojlkoaaDoorPpBuild
import Derived.Test.YtolpgafkojlkoaaDoorPpPlain
namespace Go.Proofs.YtolpgafkojlkoaaDoor.Vp
open Go.RowKit

theorem hex_get (j : Nat) (h : j < (⟨#[48, 49, 50, 51, 52, 53, 54, 55, 56, 57, 97, 98, 99, 100, 101, 102]⟩ : ByteArray).size) : (⟨#[48, 49, 50, 51, 52, 53, 54, 55, 56, 57, 97, 98, 99, 100, 101, 102]⟩ : ByteArray)[j] = hexD j := by
  have h' : j < 16 := h
  rcases (show j = 0 ∨ j = 1 ∨ j = 2 ∨ j = 3 ∨ j = 4 ∨ j = 5 ∨ j = 6 ∨ j = 7 ∨ j = 8 ∨ j = 9 ∨ j = 10 ∨ j = 11 ∨ j = 12 ∨ j = 13 ∨ j = 14 ∨ j = 15 by omega) with rfl | rfl | rfl | rfl | rfl | rfl | rfl | rfl | rfl | rfl | rfl | rfl | rfl | rfl | rfl | rfl
  all_goals rfl

set_option maxRecDepth 100000 in
set_option maxHeartbeats 2000000 in
theorem quote_any (s : ByteArray) (w : World) (hs : s.size ≤ 2000) :
    Calls Tryd.prog 88 #[.string s] w fun e w' => e = .returned (.string ⟨(quoteB s.data.toList).toArray⟩) ∧ Below w.heap.size w w' := by
  have N0 := hide (Bd.new w)
  go_enter Tryd.func88, Tryd.ntmps88
  go_wp2_with fail
  refine (writeByte_any w.heap.size w.heap.size [] 34 _ N0 (by simp) (by simp)).mono ?_
  rintro e w1 ⟨rfl, hD, hB⟩
  have HD := hide hD
  have HB : Hid (Below w.heap.size w w1) := ((Below.refl _ _).alloc (Nat.le_refl _) _).trans hB
  have hsz : w.heap.size + 1 ≤ w1.heap.size := by have := hB.size; simpa using this
  clear hD hB N0
  go_wp2
  go_loopw [8] (fun i wr => ∃ k : Nat, k ≤ s.size ∧ i = .int .i64 k ∧ Bd wr w.heap.size w.heap.size (qTo s.data.toList k) ∧ Below w.heap.size w wr ∧ w.heap.size < wr.heap.size) (fun i _ => s.size - (intOf i).toNat)
  case atStart => exact ⟨0, by omega, rfl, HD, HB, hsz⟩
  case round =>
    clear hsz HD HB
    obtain ⟨k, hk, rfl, hD, hB, hsz⟩ := hrel
    have HD := hide hD
    have HB := hide hB
    clear hB hD
    have hql := qTo_le s.data.toList k
    by_cases hlt : k < s.size
    · have HQ := hide (qTo_succ s k hlt)
      have hc := s[k].toNat_lt
      go_wp2_with fail
      refine (plain_any s[k] _).mono ?_
      rintro e w' ⟨rfl, rfl⟩
      cases hp : plainC s[k] with
      | true =>
        have HE : Hid (enc s[k] = [s[k]]) := by
          show enc s[k] = [s[k]]
          unfold enc
          rw [if_pos hp]
        clear hp
        go_wp2_with fail
        refine (writeByte_any w.heap.size w.heap.size _ s[k] _ HD (by omega) (by omega)).mono ?_
        rintro e w2 ⟨rfl, hD2, hB2⟩
        have HD2 := hide hD2
        have HB2 := hide (HB.trans hB2)
        have hs2 := Nat.lt_of_lt_of_le hsz hB2.size
        clear hD2 hB2
        go_wp2
        exact ⟨⟨k + 1, by omega, by go_num, by rw [HQ.out, HE.out]; exact HD2, HB2, hs2⟩, by simp [intOf]; omega⟩
      | false =>
        have HE : Hid (enc s[k] = [92] ++ hex2 s[k]) := by
          show enc s[k] = [92] ++ hex2 s[k]
          unfold enc
          rw [if_neg (by simp [hp])]
          rfl
        clear hp
        go_wp2_with fail
        refine (writeByte_any w.heap.size w.heap.size _ 92 _ HD (by omega) (by omega)).mono ?_
        rintro e w2 ⟨rfl, hD2, hB2⟩
        have HD2 := hide hD2
        have HB2 := hide (HB.trans hB2)
        have hs2 := Nat.lt_of_lt_of_le hsz hB2.size
        clear hD2 hB2
        go_wp2_with fail
        refine (writeByte_any w.heap.size w.heap.size _ _ _ HD2 (by simp; omega) (by omega)).mono ?_
        rintro e w3 ⟨rfl, hD3, hB3⟩
        have HD3 := hide hD3
        have HB3 := hide (HB2.trans hB3)
        have hs3 := Nat.lt_of_lt_of_le hs2 hB3.size
        clear hD3 hB3
        go_wp2_with fail
        refine (writeByte_any w.heap.size w.heap.size _ _ _ HD3 (by simp; omega) (by omega)).mono ?_
        rintro e w4 ⟨rfl, hD4, hB4⟩
        have HD4 := hide hD4
        have HB4 := hide (HB3.trans hB4)
        have hs4 := Nat.lt_of_lt_of_le hs3 hB4.size
        clear hD4 hB4
        go_wp2
        exact ⟨⟨k + 1, by omega, by go_num, by rw [HQ.out, HE.out]; simpa [hex2, hex_get] using HD4.out, HB4, hs4⟩, by simp [intOf]; omega⟩
    · have e : k = s.size := by omega
      subst e
      have HQ : Hid (quoteB s.data.toList = qTo s.data.toList s.size ++ [34]) := by
        show quoteB s.data.toList = qTo s.data.toList s.size ++ [34]
        unfold quoteB
        simp
      go_wp2_with fail
      refine (writeByte_any w.heap.size w.heap.size _ 34 _ HD (by omega) (by omega)).mono ?_
      rintro e w2 ⟨rfl, hD2, hB2⟩
      have HD2 := hide hD2
      have HB2 := hide (HB.trans hB2)
      have hs2 := Nat.lt_of_lt_of_le hsz hB2.size
      clear hD2 hB2
      rw [← HQ.out] at HD2
      go_wp2_with fail
      refine (string_any w.heap.size w.heap.size _ _ HD2 (by omega)).mono ?_
      rintro e w3 ⟨rfl, hB3⟩
      go_wp2
      go_ret
      exact ⟨rfl, HB2.trans hB3⟩

end Go.Proofs.YtolpgafkojlkoaaDoor.Vp
