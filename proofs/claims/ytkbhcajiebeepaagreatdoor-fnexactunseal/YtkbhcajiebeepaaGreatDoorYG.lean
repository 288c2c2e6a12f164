/-
  Put together of: PaImplN.
-/
import Derived.Test.YtkbhcajiebeepaaGreatDoorYE
import Derived.Test.YtkbhcajiebeepaaGreatDoorYD
import Derived.Lib.AtoiAllCases
import Derived.Lib.SmallJoins

/-
  ParseProgram, impl: readNumber.
-/
namespace Go.Proofs.YtkbhcajiebeepaaGreatDoor.Vp
open Go.RowKit

def NumAll (S : List UInt8) (e : Ending) : Prop := (∃ n, IsNum S n ∧ e = .returned (.tuple #[.int .i64 n, .nilIface])) ∨ ((∀ n, ¬ IsNum S n) ∧ ∃ t p, e = .returned (.tuple #[.int .i64 0, .iface t p]))
theorem atoi_any (s : ByteArray) (w : World) (hs : s.size ≤ 16777216) (hS : EV w 11) (hR : EV w 12) :
    Calls Tryz.prog 109 #[.string s] w fun e w' => ((∃ v, Lib.atoiAll s.data.toList = .ok v ∧ e = .returned (.tuple #[.int .i64 v, .nilIface])) ∨ ((∀ v, Lib.atoiAll s.data.toList ≠ .ok v) ∧ ∃ n t p, e = .returned (.tuple #[.int .i64 n, .iface t p]))) ∧ Below w.heap.size w w' := by
  obtain ⟨_, t1, p1, h1⟩ := hS
  obtain ⟨_, t2, p2, h2⟩ := hR
  cases h : Lib.atoiAll s.data.toList with
  | ok v =>
    refine (Tryz.strconv_Atoi_ok s (by omega) v h w).mono ?_
    rintro e w' ⟨rfl, hw⟩
    refine ⟨.inl ⟨v, rfl, rfl⟩, ?_⟩
    rcases hw with rfl | ⟨t, rfl⟩
    · exact Below.refl _ _
    · exact Joins.below_bytesWorld _ _ _ _ (Nat.le_refl _)
  | range =>
    refine (Tryz.strconv_Atoi_range s (by omega) h _ w h2 (.inr ⟨t2, p2, rfl⟩)).mono ?_
    rintro e w' ⟨N, rfl, _, _, hb⟩
    exact ⟨.inr ⟨fun v hv => (by cases hv), _, _, _, rfl⟩, hb⟩
  | _ =>
    refine (Tryz.strconv_Atoi_syntax s (by omega) h _ w h1 (.inr ⟨t1, p1, rfl⟩)).mono ?_
    rintro e w' ⟨N, rfl, _, _, hb⟩
    exact ⟨.inr ⟨fun v hv => (by cases hv), _, _, _, rfl⟩, hb⟩
theorem itoaI_any (n : Int) (w : World) (h0 : -9223372036854775808 ≤ n) (h1 : n ≤ 9223372036854775807) (hP : Pow w) :
    Calls Tryz.prog 34 #[.int .i64 n] w fun e w' => e = .returned (.string ⟨(Lib.itoa n).toArray⟩) ∧ Below w.heap.size w w' := by
  refine (Tryz.strconv_Itoa n h0 h1 _ hP).mono ?_
  rintro e w' ⟨rfl, j, os, hw⟩
  refine ⟨rfl, ?_⟩
  rw [hw]
  exact below_of_heap (os := os) rfl rfl rfl rfl (by simp)

set_option maxRecDepth 100000 in
set_option maxHeartbeats 1000000 in
theorem readNumber_any (s : ByteArray) (w : World) (hs : s.size ≤ 16777216) (hS : EV w 11) (hR : EV w 12) (hN : EV w 2) (hP : Pow w) :
    Calls Tryz.prog 79 #[.string s] w fun e w' => NumAll s.data.toList e ∧ Below w.heap.size w w' := by
  have AT := hide (atoi_any s w hs hS hR)
  have HP := hide hP
  have HN := hide hN
  clear hS hR hP hN
  go_enter Tryz.func79, Tryz.ntmps79
  go_wp2_with fail
  refine AT.out.mono ?_
  rintro e w1 ⟨h1, hB1⟩
  have B1 := hide hB1
  have P1 := hide (HP.out.below hB1 (Nat.le_refl _))
  obtain ⟨hz, te, pe, hev⟩ := HN.out.below hB1 HN.out.1
  clear hB1 AT
  rcases h1 with ⟨v, hv, rfl⟩ | ⟨hno, n, t, p, rfl⟩
  · obtain ⟨b1, b2⟩ := Lib.atoiAll_bounds hv
    have HV := hide hv
    clear hv
    go_wp2_with fail
    refine (itoaI_any v _ b1 b2 P1.out).mono ?_
    rintro e w2 ⟨rfl, hB2⟩
    have B2 := hide (B1.out.trans (hB2.mono B1.out.size))
    have ⟨hz2, te2, pe2, hev2⟩ := EV.below ⟨hz, te, pe, hev⟩ hB2 hz
    clear hB2 hev
    cases heq : (Lib.itoa v == s.toList) with
    | true =>
      have HI : Hid (IsNum s.data.toList v) := ⟨by have := eq_of_beq heq; rw [ByteArray.toList_eq] at this; exact this.symm, b1, b2⟩
      go_wp2
      go_ret2
      exact ⟨.inl ⟨v, HI.out, rfl⟩, B2.out⟩
    | false =>
      have HI : Hid (∀ n, ¬ IsNum s.data.toList n) := fun n h => by
        have h3 := isNum_ok h
        rw [HV.out] at h3
        cases h3
        have h4 := h.1
        rw [ByteArray.toList_eq, ← h4] at heq
        simp at heq
      go_wp2_with fail
      go_quiet (fail)
      go_wp2
      go_ret2
      exact ⟨.inr ⟨HI.out, _, _, rfl⟩, below_drewN B2.out _⟩
  · have HI : Hid (∀ n, ¬ IsNum s.data.toList n) := fun n h => hno n (isNum_ok h)
    go_wp2_with fail
    go_quiet (fail)
    go_wp2
    go_ret2
    exact ⟨.inr ⟨HI.out, _, _, rfl⟩, below_drewN B1.out _⟩

end Go.Proofs.YtkbhcajiebeepaaGreatDoor.Vp
