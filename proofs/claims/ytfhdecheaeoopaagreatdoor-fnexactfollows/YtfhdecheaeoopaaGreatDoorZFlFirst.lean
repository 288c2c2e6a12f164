/-
  impl: firstRing with the two checks of Follows.
-/
import Derived.Test.YtfhdecheaeoopaaGreatDoorZY
import Derived.WalkMore
namespace Go.Proofs.YtfhdecheaeoopaaGreatDoor.Vp
open Go.RowKit

set_option maxRecDepth 100000 in
set_option maxHeartbeats 4000000 in
theorem firstRing_fol (bd offd n cap cb : Nat) (f : Nat → Deed) (w : World) (hn : (n : Int) ≤ 400) (hacc : accOk f n = true) (hrow : RowDeed w bd offd n f) (hT2 : Tab2 w) (hPow : Pow w) (hcb : cb < w.heap.size)
    (k0 : w.cell? ⟨cb, 0, none⟩ = some (.int .i64 4)) (k1 : w.cell? ⟨cb, 1, none⟩ = some (.func (.func 21) #[] #[])) (k2 : w.cell? ⟨cb, 2, none⟩ = some (.int .i64 5)) (k3 : w.cell? ⟨cb, 3, none⟩ = some (.func (.func 22) #[] #[])) :
    Calls Tryz.prog 20 #[.agg #[.slice (some ⟨bd, offd, none⟩) n cap, .slice none 0 0, .slice none 0 0], .slice (some ⟨cb, 0, none⟩) 2 2] w fun e w' => e = .returned (.tuple #[.int .i64 (folF f n).1, .int .i64 (folF f n).2]) ∧ Below w.heap.size w w' := by
  obtain ⟨R, hR⟩ : ∃ R, R = folF f n := ⟨_, rfl⟩
  rw [← hR]
  have HR := hide hR
  clear hR
  have A0 := hide ((Below.refl w.heap.size w).alloc (Nat.le_refl _) (.cells #[.slice (some ⟨bd, offd, none⟩) n cap, .slice none 0 0, .slice none 0 0] 59))
  have m0 : (w.alloc (.cells #[.slice (some ⟨bd, offd, none⟩) n cap, .slice none 0 0, .slice none 0 0] 59)).cell? ⟨w.heap.size, 0, none⟩ = some (.slice (some ⟨bd, offd, none⟩) n cap) := by simp
  have m1 : (w.alloc (.cells #[.slice (some ⟨bd, offd, none⟩) n cap, .slice none 0 0, .slice none 0 0] 59)).cell? ⟨w.heap.size, 1, none⟩ = some (.slice none 0 0) := by simp
  have m2 : (w.alloc (.cells #[.slice (some ⟨bd, offd, none⟩) n cap, .slice none 0 0, .slice none 0 0] 59)).cell? ⟨w.heap.size, 2, none⟩ = some (.slice none 0 0) := by simp
  have hz : (w.alloc (.cells #[.slice (some ⟨bd, offd, none⟩) n cap, .slice none 0 0, .slice none 0 0] 59)).heap.size = w.heap.size + 1 := by simp
  have HROW := hide hrow
  have HACC := hide hacc
  have HT2 := hide hT2
  have HPOW := hide hPow
  have htb := hT2.1
  have HK := hide (And.intro k0 (And.intro k1 (And.intro k2 k3)))
  clear hrow hacc hT2 hPow k0 k1 k2 k3
  go_enter Tryz.func20, Tryz.ntmps20
  go_wp2
  go_step3
  go_wp2
  go_step3
  go_wp2
  generalize w.alloc (.cells #[.slice (some ⟨bd, offd, none⟩) n cap, .slice none 0 0, .slice none 0 0] 59) = WA at A0 m0 m1 m2 hz ⊢
  go_loopw [6, 7, 16] (fun c6 c7 i wr => ∃ k : Nat, k ≤ n ∧ c6 = .int .i64 0 ∧ c7 = .int .i64 0 ∧ i = .int .i64 k ∧ Hid (∀ j, j < k → codeF f j = 0) ∧ Hid (Below (w.heap.size + 1) WA wr)) (fun _ _ i _ => n - (intOf i).toNat)
  case atStart => exact ⟨0, by omega, rfl, rfl, rfl, fun j hj => absurd hj (Nat.not_lt_zero _), Below.refl _ _⟩
  case round =>
    obtain ⟨k, hk, rfl, rfl, rfl, HZ, HB⟩ := hrel
    have BW := hide (A0.out.trans (HB.out.mono (by omega)))
    by_cases hlt : k < n
    · obtain ⟨p0, p1, p2, p3, ⟨a0, cap0, p4, q4⟩, ⟨a1, cap1, p5, q5⟩⟩ := (HROW.out.below BW.out (Nat.le_refl _)).2 k hlt
      have HCI := hide (code_is f k)
      have D1 := hide ((Below.refl wr.heap.size wr).alloc (Nat.le_refl _) (.cells #[.string (f k).name, .int .i64 (f k).kind, .int .i64 (f k).code, .string (f k).text, .slice a0 (f k).actN cap0, .slice a1 (f k).linksN cap1] 54))
      have B1 := hide (HB.out.alloc (by have := HB.out.size; omega) (.cells #[.string (f k).name, .int .i64 (f k).kind, .int .i64 (f k).code, .string (f k).text, .slice a0 (f k).actN cap0, .slice a1 (f k).linksN cap1] 54))
      have QI := hide (show SlIns wr a0 (f k).actN (f k).act ∧ SlLink wr a1 (f k).linksN (f k).links from ⟨q4, q5⟩)
      have QJ := hide (And.intro (QI.out.1.below D1.out (Nat.le_refl _)) (QI.out.2.below D1.out (Nat.le_refl _)))
      have e0 : (wr.alloc (.cells #[.string (f k).name, .int .i64 (f k).kind, .int .i64 (f k).code, .string (f k).text, .slice a0 (f k).actN cap0, .slice a1 (f k).linksN cap1] 54)).cell? ⟨wr.heap.size, 0, none⟩ = some (.string (f k).name) := by simp
      have e1 : (wr.alloc (.cells #[.string (f k).name, .int .i64 (f k).kind, .int .i64 (f k).code, .string (f k).text, .slice a0 (f k).actN cap0, .slice a1 (f k).linksN cap1] 54)).cell? ⟨wr.heap.size, 1, none⟩ = some (.int .i64 (f k).kind) := by simp
      have e2 : (wr.alloc (.cells #[.string (f k).name, .int .i64 (f k).kind, .int .i64 (f k).code, .string (f k).text, .slice a0 (f k).actN cap0, .slice a1 (f k).linksN cap1] 54)).cell? ⟨wr.heap.size, 2, none⟩ = some (.int .i64 (f k).code) := by simp
      have e3 : (wr.alloc (.cells #[.string (f k).name, .int .i64 (f k).kind, .int .i64 (f k).code, .string (f k).text, .slice a0 (f k).actN cap0, .slice a1 (f k).linksN cap1] 54)).cell? ⟨wr.heap.size, 3, none⟩ = some (.string (f k).text) := by simp
      have e4 : (wr.alloc (.cells #[.string (f k).name, .int .i64 (f k).kind, .int .i64 (f k).code, .string (f k).text, .slice a0 (f k).actN cap0, .slice a1 (f k).linksN cap1] 54)).cell? ⟨wr.heap.size, 4, none⟩ = some (.slice a0 (f k).actN cap0) := by simp
      have e5 : (wr.alloc (.cells #[.string (f k).name, .int .i64 (f k).kind, .int .i64 (f k).code, .string (f k).text, .slice a0 (f k).actN cap0, .slice a1 (f k).linksN cap1] 54)).cell? ⟨wr.heap.size, 5, none⟩ = some (.slice a1 (f k).linksN cap1) := by simp
      have hez : (wr.alloc (.cells #[.string (f k).name, .int .i64 (f k).kind, .int .i64 (f k).code, .string (f k).text, .slice a0 (f k).actN cap0, .slice a1 (f k).linksN cap1] 54)).heap.size = wr.heap.size + 1 := by simp
      have hwz : w.heap.size + 1 ≤ wr.heap.size := by have := HB.out.size; omega
      clear q4 q5
      go_wp2
      clear p0 p1 p2 p3 p4 p5 D1
      generalize wr.alloc (.cells #[.string (f k).name, .int .i64 (f k).kind, .int .i64 (f k).code, .string (f k).text, .slice a0 (f k).actN cap0, .slice a1 (f k).linksN cap1] 54) = WD at B1 QJ e0 e1 e2 e3 e4 e5 hez ⊢
      generalize wr.heap.size = gd at e0 e1 e2 e3 e4 e5 hez hwz ⊢
      go_loopw [6, 7, 23] (fun c6 c7 i w2 => ∃ j : Nat, j ≤ 2 ∧ c6 = .int .i64 0 ∧ c7 = .int .i64 0 ∧ i = .int .i64 j ∧ Hid (1 ≤ j → strayB f k = false) ∧ Hid (2 ≤ j → endB f k = false) ∧ Hid (Below (gd + 1) WD w2)) (fun _ _ i _ => 2 - (intOf i).toNat)
      case atStart => exact ⟨0, by omega, rfl, rfl, rfl, (fun h => by omega), (fun h => by omega), Below.refl _ _⟩
      case round =>
        obtain ⟨j, hj, rfl, rfl, rfl, HS, HN, HB2⟩ := hrel
        have C2 := hide (B1.out.trans (HB2.out.mono (by omega)))
        have W2 := hide (A0.out.trans (C2.out.mono (by omega)))
        have hk0 := (W2.out.cell (p := ⟨cb, 0, none⟩) hcb).trans HK.out.1
        have hk1 := (W2.out.cell (p := ⟨cb, 1, none⟩) hcb).trans HK.out.2.1
        have hk2 := (W2.out.cell (p := ⟨cb, 2, none⟩) hcb).trans HK.out.2.2.1
        have hk3 := (W2.out.cell (p := ⟨cb, 3, none⟩) hcb).trans HK.out.2.2.2
        have f0 := (HB2.out.cell (p := ⟨gd, 0, none⟩) (Nat.lt_succ_self gd)).trans e0
        have f1 := (HB2.out.cell (p := ⟨gd, 1, none⟩) (Nat.lt_succ_self gd)).trans e1
        have f2 := (HB2.out.cell (p := ⟨gd, 2, none⟩) (Nat.lt_succ_self gd)).trans e2
        have f3 := (HB2.out.cell (p := ⟨gd, 3, none⟩) (Nat.lt_succ_self gd)).trans e3
        have f4 := (HB2.out.cell (p := ⟨gd, 4, none⟩) (Nat.lt_succ_self gd)).trans e4
        have f5 := (HB2.out.cell (p := ⟨gd, 5, none⟩) (Nat.lt_succ_self gd)).trans e5
        have g0 := (C2.out.cell (p := ⟨w.heap.size, 0, none⟩) (Nat.lt_succ_self w.heap.size)).trans m0
        have g1 := (C2.out.cell (p := ⟨w.heap.size, 1, none⟩) (Nat.lt_succ_self w.heap.size)).trans m1
        have g2 := (C2.out.cell (p := ⟨w.heap.size, 2, none⟩) (Nat.lt_succ_self w.heap.size)).trans m2
        have hs1 : gd < wr.heap.size := by have := HB2.out.size; omega
        have hs2 : w.heap.size < wr.heap.size := by omega
        have hs3 : cb < wr.heap.size := by omega
        rcases (show j = 0 ∨ j = 1 ∨ j = 2 by omega) with rfl | rfl | rfl
        · have hsf := fun (w : World) (a : Addr) (m : Mode) => run_store Tryz.prog w a (.func (.func 21) #[] #[]) m rfl
          have DC := hide ((Below.refl wr.heap.size wr).alloc (Nat.le_refl _) (.cells #[.int .i64 4, .func (.func 21) #[] #[]] 62))
          have WC := hide (W2.out.alloc W2.out.size (.cells #[.int .i64 4, .func (.func 21) #[] #[]] 62))
          have QC := hide (And.intro ((QJ.out.1.below HB2.out (by omega)).below DC.out (Nat.le_refl _)) ((QJ.out.2.below HB2.out (by omega)).below DC.out (Nat.le_refl _)))
          have BC := hide (HB2.out.alloc (by have := HB2.out.size; omega) (.cells #[.int .i64 4, .func (.func 21) #[] #[]] 62))
          have hcz : (wr.alloc (.cells #[.int .i64 4, .func (.func 21) #[] #[]] 62)).cell? ⟨wr.heap.size, 0, none⟩ = some (.int .i64 4) := by simp
          have hcl : wr.heap.size < (wr.alloc (.cells #[.int .i64 4, .func (.func 21) #[] #[]] 62)).heap.size := by simp
          go_wp2_with fail
          clear f0 f1 f2 f3 f4 f5 g0 g1 g2 hk0 hk1 hk2 hk3 hsf
          generalize wr.alloc (.cells #[.int .i64 4, .func (.func 21) #[] #[]] 62) = WX at DC WC QC BC hcz hcl ⊢
          refine (strays_any bd offd n cap f k a0 cap0 a1 cap1 _ HACC.out hlt (HROW.out.below WC.out (Nat.le_refl _)) QC.out.1 QC.out.2 (HT2.out.below WC.out htb) (HPOW.out.below WC.out (Nat.le_refl _))).mono ?_
          rintro e w3 ⟨rfl, hB⟩
          have W3 := hide (WC.out.trans (hB.mono WC.out.size))
          have C3 := hide (BC.out.trans (hB.mono (by have := BC.out.size; omega)))
          have cz := (hB.cell (p := ⟨wr.heap.size, 0, none⟩) hcl).trans hcz
          clear hB hcz
          cases hb : strayB f k with
          | true =>
            have HCK : Hid (codeF f k = 4) := by show _ = _; rw [HCI.out]; rw [if_pos hb]
            have HE : Hid (R = (4, (k : Int))) := by show _ = _; rw [HR.out, folF_first hlt HZ.out (by rw [HCK.out]; decide), HCK.out]
            go_wp2
            try rw [Exit.noGoto_ret]
            go_ret2
            exact ⟨by simp [HE.out], W3.out⟩
          | false =>
            have HBF := hide hb
            go_wp2
            exact ⟨⟨1, by omega, rfl, rfl, by go_num, fun _ => HBF.out, (fun h => by omega), C3.out⟩, by simp [intOf]⟩
        · have hsf := fun (w : World) (a : Addr) (m : Mode) => run_store Tryz.prog w a (.func (.func 22) #[] #[]) m rfl
          have DC := hide ((Below.refl wr.heap.size wr).alloc (Nat.le_refl _) (.cells #[.int .i64 5, .func (.func 22) #[] #[]] 62))
          have WC := hide (W2.out.alloc W2.out.size (.cells #[.int .i64 5, .func (.func 22) #[] #[]] 62))
          have QC := hide (And.intro ((QJ.out.1.below HB2.out (by omega)).below DC.out (Nat.le_refl _)) ((QJ.out.2.below HB2.out (by omega)).below DC.out (Nat.le_refl _)))
          have BC := hide (HB2.out.alloc (by have := HB2.out.size; omega) (.cells #[.int .i64 5, .func (.func 22) #[] #[]] 62))
          have hcz : (wr.alloc (.cells #[.int .i64 5, .func (.func 22) #[] #[]] 62)).cell? ⟨wr.heap.size, 0, none⟩ = some (.int .i64 5) := by simp
          have hcl : wr.heap.size < (wr.alloc (.cells #[.int .i64 5, .func (.func 22) #[] #[]] 62)).heap.size := by simp
          go_wp2_with fail
          clear f0 f1 f2 f3 f4 f5 g0 g1 g2 hk0 hk1 hk2 hk3 hsf
          generalize wr.alloc (.cells #[.int .i64 5, .func (.func 22) #[] #[]] 62) = WX at DC WC QC BC hcz hcl ⊢
          refine (ends_any bd offd n cap f k a0 cap0 a1 cap1 _ HACC.out hlt (HROW.out.below WC.out (Nat.le_refl _)) QC.out.1 QC.out.2 (HT2.out.below WC.out htb) (HPOW.out.below WC.out (Nat.le_refl _))).mono ?_
          rintro e w3 ⟨rfl, hB⟩
          have W3 := hide (WC.out.trans (hB.mono WC.out.size))
          have C3 := hide (BC.out.trans (hB.mono (by have := BC.out.size; omega)))
          have cz := (hB.cell (p := ⟨wr.heap.size, 0, none⟩) hcl).trans hcz
          clear hB hcz
          cases hb : endB f k with
          | true =>
            have HCK : Hid (codeF f k = 5) := by show _ = _; rw [HCI.out]; rw [if_neg (by rw [HS.out (by omega)]; simp), if_pos hb]
            have HE : Hid (R = (5, (k : Int))) := by show _ = _; rw [HR.out, folF_first hlt HZ.out (by rw [HCK.out]; decide), HCK.out]
            go_wp2
            try rw [Exit.noGoto_ret]
            go_ret2
            exact ⟨by simp [HE.out], W3.out⟩
          | false =>
            have HBF := hide hb
            go_wp2
            exact ⟨⟨2, by omega, rfl, rfl, by go_num, fun _ => HS.out (by omega), fun _ => HBF.out, C3.out⟩, by simp [intOf]⟩
        · have HCK : Hid (codeF f k = 0) := by show _ = _; rw [HCI.out, if_neg (by rw [HS.out (by omega)]; simp), if_neg (by rw [HN.out (by omega)]; simp)]
          go_wp2
          exact ⟨⟨k + 1, by omega, rfl, rfl, by go_num, fun j hj => by
            by_cases e : j = k
            · subst e; exact HCK.out
            · exact HZ.out j (by omega), C2.out⟩, by simp [intOf]; omega⟩
    · obtain rfl : k = n := by omega
      have HE : Hid (R = (0, 0)) := by show _ = _; rw [HR.out]; exact folF_none HZ.out
      go_wp2
      try rw [Exit.noGoto_ret]
      go_ret2
      exact ⟨by simp [HE.out], BW.out⟩

end Go.Proofs.YtfhdecheaeoopaaGreatDoor.Vp
