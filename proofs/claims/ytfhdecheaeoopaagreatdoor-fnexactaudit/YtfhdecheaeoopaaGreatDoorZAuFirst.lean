/-
  impl: firstRing with the four checks of Audit. Written by tools/aufirst.py.
-/
import Derived.Test.YtfhdecheaeoopaaGreatDoorZAuRing
import Derived.Test.YtfhdecheaeoopaaGreatDoorZInsB
import Derived.Test.YtfhdecheaeoopaaGreatDoorZAuLies
import Derived.Test.YtfhdecheaeoopaaGreatDoorZAuHas
import Derived.WalkMore
namespace Go.Proofs.YtfhdecheaeoopaaGreatDoor.Vp
open Go.RowKit

set_option maxRecDepth 100000 in
set_option maxHeartbeats 8000000 in
theorem firstRing_aud (bd offd n cap cb : Nat) (sa0 : Option Addr) (n0 sc0 : Nat) (f0 : Nat → Source) (sa1 : Option Addr) (n1 sc1 : Nat) (f1 : Nat → Target) (f : Nat → Deed) (w : World) (hn : (n : Int) ≤ 400) (hn0 : (n0 : Int) ≤ 1048576) (hn1 : (n1 : Int) ≤ 1048576) (hacc : accOk f n = true) (hrow : RowDeed w bd offd n f) (hs0 : SlSource w sa0 n0 f0) (hs1 : SlTarget w sa1 n1 f1) (ha0 : ascTo (nm0 f0) n0 = true) (ha1 : ascTo (nm1 f1) n1 = true) (hft : ∀ i, i < n → (f i).actN ≤ 1048576) (hfl : ∀ i, i < n → (f i).linksN ≤ 1048576) (hfs : ∀ i, i < n1 → FitsTarget (f1 i)) (hT2 : Tab2 w) (hPow : Pow w) (hcb : cb < w.heap.size)
    (k0 : w.cell? ⟨cb, 0, none⟩ = some (.int .i64 2)) (k1 : w.cell? ⟨cb, 1, none⟩ = some (.func (.func 33) #[] #[])) (k2 : w.cell? ⟨cb, 2, none⟩ = some (.int .i64 3)) (k3 : w.cell? ⟨cb, 3, none⟩ = some (.func (.func 34) #[] #[])) (k4 : w.cell? ⟨cb, 4, none⟩ = some (.int .i64 4)) (k5 : w.cell? ⟨cb, 5, none⟩ = some (.func (.func 21) #[] #[])) (k6 : w.cell? ⟨cb, 6, none⟩ = some (.int .i64 5)) (k7 : w.cell? ⟨cb, 7, none⟩ = some (.func (.func 22) #[] #[])) :
    Calls Tryz.prog 20 #[.agg #[.slice (some ⟨bd, offd, none⟩) n cap, .slice sa0 n0 sc0, .slice sa1 n1 sc1], .slice (some ⟨cb, 0, none⟩) 4 4] w fun e w' => e = .returned (.tuple #[.int .i64 (firF (codeA n0 f0 n1 f1 f) n).1, .int .i64 (firF (codeA n0 f0 n1 f1 f) n).2]) ∧ Below w.heap.size w w' := by
  obtain ⟨R, hR⟩ : ∃ R, R = firF (codeA n0 f0 n1 f1 f) n := ⟨_, rfl⟩
  rw [← hR]
  have HR := hide hR
  clear hR
  have A0 := hide ((Below.refl w.heap.size w).alloc (Nat.le_refl _) (.cells #[.slice (some ⟨bd, offd, none⟩) n cap, .slice sa0 n0 sc0, .slice sa1 n1 sc1] 59))
  have m0 : (w.alloc (.cells #[.slice (some ⟨bd, offd, none⟩) n cap, .slice sa0 n0 sc0, .slice sa1 n1 sc1] 59)).cell? ⟨w.heap.size, 0, none⟩ = some (.slice (some ⟨bd, offd, none⟩) n cap) := by simp
  have m1 : (w.alloc (.cells #[.slice (some ⟨bd, offd, none⟩) n cap, .slice sa0 n0 sc0, .slice sa1 n1 sc1] 59)).cell? ⟨w.heap.size, 1, none⟩ = some (.slice sa0 n0 sc0) := by simp
  have m2 : (w.alloc (.cells #[.slice (some ⟨bd, offd, none⟩) n cap, .slice sa0 n0 sc0, .slice sa1 n1 sc1] 59)).cell? ⟨w.heap.size, 2, none⟩ = some (.slice sa1 n1 sc1) := by simp
  have hz : (w.alloc (.cells #[.slice (some ⟨bd, offd, none⟩) n cap, .slice sa0 n0 sc0, .slice sa1 n1 sc1] 59)).heap.size = w.heap.size + 1 := by simp
  have HROW := hide hrow
  have HACC := hide hacc
  have HS0 := hide hs0
  have HS1 := hide hs1
  have HA0 := hide ha0
  have HA1 := hide ha1
  have HFT := hide hft
  have HFL := hide hfl
  have HFS := hide hfs
  have HT2 := hide hT2
  have HPOW := hide hPow
  have htb := hT2.1
  have HK := hide (And.intro k0 (And.intro k1 (And.intro k2 (And.intro k3 (And.intro k4 (And.intro k5 (And.intro k6 k7)))))))
  clear hrow hacc hs0 hs1 ha0 ha1 hft hfl hfs hT2 hPow k0 k1 k2 k3 k4 k5 k6 k7
  go_enter Tryz.func20, Tryz.ntmps20
  go_wp2
  go_step3
  go_wp2
  go_step3
  go_wp2
  generalize w.alloc (.cells #[.slice (some ⟨bd, offd, none⟩) n cap, .slice sa0 n0 sc0, .slice sa1 n1 sc1] 59) = WA at A0 m0 m1 m2 hz ⊢
  go_loopw [6, 7, 16] (fun c6 c7 i wr => ∃ k : Nat, k ≤ n ∧ c6 = .int .i64 0 ∧ c7 = .int .i64 0 ∧ i = .int .i64 k ∧ Hid (∀ j, j < k → codeA n0 f0 n1 f1 f j = 0) ∧ Hid (Below (w.heap.size + 1) WA wr)) (fun _ _ i _ => n - (intOf i).toNat)
  case atStart => exact ⟨0, by omega, rfl, rfl, rfl, fun j hj => absurd hj (Nat.not_lt_zero _), Below.refl _ _⟩
  case round =>
    obtain ⟨k, hk, rfl, rfl, rfl, HZ, HB⟩ := hrel
    have BW := hide (A0.out.trans (HB.out.mono (by omega)))
    by_cases hlt : k < n
    · obtain ⟨p0, p1, p2, p3, ⟨a0, cap0, p4, q4⟩, ⟨a1, cap1, p5, q5⟩⟩ := (HROW.out.below BW.out (Nat.le_refl _)).2 k hlt
      have HCI := hide (codeA_is n0 f0 n1 f1 f k)
      have D1 := hide ((Below.refl wr.heap.size wr).alloc (Nat.le_refl _) (.cells #[.string (f k).name, .int .i64 (f k).kind, .int .i64 (f k).code, .string (f k).text, .slice a0 (f k).actN cap0, .slice a1 (f k).linksN cap1] 54))
      have B1 := hide (HB.out.alloc (by have := HB.out.size; omega) (.cells #[.string (f k).name, .int .i64 (f k).kind, .int .i64 (f k).code, .string (f k).text, .slice a0 (f k).actN cap0, .slice a1 (f k).linksN cap1] 54))
      have QI := hide (show SlIns wr a0 (f k).actN (f k).act ∧ SlLink wr a1 (f k).linksN (f k).links from ⟨q4, q5⟩)
      have QJ := hide (And.intro (QI.out.1.below D1.out (Nat.le_refl _)) (QI.out.2.below D1.out (Nat.le_refl _)))
      have e0 : (wr.alloc (.cells #[.string (f k).name, .int .i64 (f k).kind, .int .i64 (f k).code, .string (f k).text, .slice a0 (f k).actN cap0, .slice a1 (f k).linksN cap1] 54)).cell? ⟨wr.heap.size, 0, none⟩ = some (.string (f k).name) := by simp
      have e1 : (wr.alloc (.cells #[.string (f k).name, .int .i64 (f k).kind, .int .i64 (f k).code, .string (f k).text, .slice a0 (f k).actN cap0, .slice a1 (f k).linksN cap1] 54)).cell? ⟨wr.heap.size, 1, none⟩ = some (.int .i64 (f k).kind) := by simp
      have e2 : (wr.alloc (.cells #[.string (f k).name, .int .i64 (f k).kind, .int .i64 (f k).code, .string (f k).text, .slice a0 (f k).actN cap0, .slice a1 (f k).linksN cap1] 54)).cell? ⟨wr.heap.size, 2, none⟩ = some (.int .i64 (f k).code) := by simp
      have e3 : (wr.alloc (.cells #[.string (f k).name, .int .i64 (f k).kind, .int .i64 (f k).code, .string (f k).text, .slice a0 (f k).actN cap0, .slice a1 (f k).linksN cap1] 54)).cell? ⟨wr.heap.size, 3, none⟩ = some (.string (f k).text) := by simp
      have e4 : (wr.alloc (.cells #[.string (f k).name, .int .i64 (f k).kind, .int .i64 (f k).code, .string (f k).text, .slice a0 (f k).actN cap0, .slice a1 (f k).linksN cap1] 54)).cell? ⟨wr.heap.size, 4, none⟩ = some (.slice a0 (f k).actN cap0) := by simp
      have e5 : (wr.alloc (.cells #[.string (f k).name, .int .i64 (f k).kind, .int .i64 (f k).code, .string (f k).text, .slice a0 (f k).actN cap0, .slice a1 (f k).linksN cap1] 54)).cell? ⟨wr.heap.size, 5, none⟩ = some (.slice a1 (f k).linksN cap1) := by simp
      have hez : (wr.alloc (.cells #[.string (f k).name, .int .i64 (f k).kind, .int .i64 (f k).code, .string (f k).text, .slice a0 (f k).actN cap0, .slice a1 (f k).linksN cap1] 54)).heap.size = wr.heap.size + 1 := by simp
      have hwz : w.heap.size + 1 ≤ wr.heap.size := by have := HB.out.size; omega
      clear q4 q5
      go_wp2
      clear p0 p1 p2 p3 p4 p5 D1
      generalize wr.alloc (.cells #[.string (f k).name, .int .i64 (f k).kind, .int .i64 (f k).code, .string (f k).text, .slice a0 (f k).actN cap0, .slice a1 (f k).linksN cap1] 54) = WD at B1 QJ e0 e1 e2 e3 e4 e5 hez ⊢
      generalize wr.heap.size = gd at e0 e1 e2 e3 e4 e5 hez hwz ⊢
      go_loopw [6, 7, 23] (fun c6 c7 i w2 => ∃ j : Nat, j ≤ 4 ∧ c6 = .int .i64 0 ∧ c7 = .int .i64 0 ∧ i = .int .i64 j ∧ Hid (1 ≤ j → lieB n0 f0 n1 f1 (f k) = false) ∧ Hid (2 ≤ j → hasB n0 f0 n1 f1 (f k) = false) ∧ Hid (3 ≤ j → strayB f k = false) ∧ Hid (4 ≤ j → endB f k = false) ∧ Hid (Below (gd + 1) WD w2)) (fun _ _ i _ => 4 - (intOf i).toNat)
      case atStart => exact ⟨0, by omega, rfl, rfl, rfl, (fun h => by omega), (fun h => by omega), (fun h => by omega), (fun h => by omega), Below.refl _ _⟩
      case round =>
        obtain ⟨j, hj, rfl, rfl, rfl, N0, N1, N2, N3, HB2⟩ := hrel
        have C2 := hide (B1.out.trans (HB2.out.mono (by omega)))
        have W2 := hide (A0.out.trans (C2.out.mono (by omega)))
        have hk0 := (W2.out.cell (p := ⟨cb, 0, none⟩) hcb).trans HK.out.1
        have hk1 := (W2.out.cell (p := ⟨cb, 1, none⟩) hcb).trans HK.out.2.1
        have hk2 := (W2.out.cell (p := ⟨cb, 2, none⟩) hcb).trans HK.out.2.2.1
        have hk3 := (W2.out.cell (p := ⟨cb, 3, none⟩) hcb).trans HK.out.2.2.2.1
        have hk4 := (W2.out.cell (p := ⟨cb, 4, none⟩) hcb).trans HK.out.2.2.2.2.1
        have hk5 := (W2.out.cell (p := ⟨cb, 5, none⟩) hcb).trans HK.out.2.2.2.2.2.1
        have hk6 := (W2.out.cell (p := ⟨cb, 6, none⟩) hcb).trans HK.out.2.2.2.2.2.2.1
        have hk7 := (W2.out.cell (p := ⟨cb, 7, none⟩) hcb).trans HK.out.2.2.2.2.2.2.2
        have f0' := (HB2.out.cell (p := ⟨gd, 0, none⟩) (Nat.lt_succ_self gd)).trans e0
        have f1' := (HB2.out.cell (p := ⟨gd, 1, none⟩) (Nat.lt_succ_self gd)).trans e1
        have f2' := (HB2.out.cell (p := ⟨gd, 2, none⟩) (Nat.lt_succ_self gd)).trans e2
        have f3' := (HB2.out.cell (p := ⟨gd, 3, none⟩) (Nat.lt_succ_self gd)).trans e3
        have f4' := (HB2.out.cell (p := ⟨gd, 4, none⟩) (Nat.lt_succ_self gd)).trans e4
        have f5' := (HB2.out.cell (p := ⟨gd, 5, none⟩) (Nat.lt_succ_self gd)).trans e5
        have g0 := (C2.out.cell (p := ⟨w.heap.size, 0, none⟩) (Nat.lt_succ_self w.heap.size)).trans m0
        have g1 := (C2.out.cell (p := ⟨w.heap.size, 1, none⟩) (Nat.lt_succ_self w.heap.size)).trans m1
        have g2 := (C2.out.cell (p := ⟨w.heap.size, 2, none⟩) (Nat.lt_succ_self w.heap.size)).trans m2
        have hs1 : gd < wr.heap.size := by have := HB2.out.size; omega
        have hs2 : w.heap.size < wr.heap.size := by omega
        have hs3 : cb < wr.heap.size := by omega
        rcases (show j = 0 ∨ j = 1 ∨ j = 2 ∨ j = 3 ∨ j = 4 by omega) with rfl | rfl | rfl | rfl | rfl
        · have hsf := fun (w : World) (a : Addr) (m : Mode) => run_store Tryz.prog w a (.func (.func 33) #[] #[]) m rfl
          have DC := hide ((Below.refl wr.heap.size wr).alloc (Nat.le_refl _) (.cells #[.int .i64 2, .func (.func 33) #[] #[]] 62))
          have WC := hide (W2.out.alloc W2.out.size (.cells #[.int .i64 2, .func (.func 33) #[] #[]] 62))
          have QC := hide (And.intro ((QJ.out.1.below HB2.out (by omega)).below DC.out (Nat.le_refl _)) ((QJ.out.2.below HB2.out (by omega)).below DC.out (Nat.le_refl _)))
          have BC := hide (HB2.out.alloc (by have := HB2.out.size; omega) (.cells #[.int .i64 2, .func (.func 33) #[] #[]] 62))
          have hcz : (wr.alloc (.cells #[.int .i64 2, .func (.func 33) #[] #[]] 62)).cell? ⟨wr.heap.size, 0, none⟩ = some (.int .i64 2) := by simp
          have hcl : wr.heap.size < (wr.alloc (.cells #[.int .i64 2, .func (.func 33) #[] #[]] 62)).heap.size := by simp
          go_wp2_with fail
          clear f0' f1' f2' f3' f4' f5' g0 g1 g2 hk0 hk1 hk2 hk3 hk4 hk5 hk6 hk7 hsf
          generalize wr.alloc (.cells #[.int .i64 2, .func (.func 33) #[] #[]] 62) = WX at DC WC QC BC hcz hcl ⊢
          refine (lies_any bd offd n cap sa0 n0 sc0 f0 sa1 n1 sc1 f1 (f k) a0 cap0 a1 cap1 _ hn0 hn1 (HS0.out.below WC.out (Nat.le_refl _)) (HS1.out.below WC.out (Nat.le_refl _)) HA0.out HA1.out QC.out.1 (HFT.out k hlt) HFS.out).mono ?_
          rintro e w3 ⟨rfl, hB⟩
          have W3 := hide (WC.out.trans (hB.mono WC.out.size))
          have C3 := hide (BC.out.trans (hB.mono (by have := BC.out.size; omega)))
          have cz := (hB.cell (p := ⟨wr.heap.size, 0, none⟩) hcl).trans hcz
          clear hB hcz
          cases hb : lieB n0 f0 n1 f1 (f k) with
          | true =>
            have HCK : Hid (codeA n0 f0 n1 f1 f k = 2) := by show _ = _; rw [HCI.out]; rw [if_pos hb]
            have HE : Hid (R = (2, (k : Int))) := by show _ = _; rw [HR.out, firF_first hlt HZ.out (by rw [HCK.out]; decide), HCK.out]
            go_wp2
            try rw [Exit.noGoto_ret]
            go_ret2
            exact ⟨by simp [HE.out], W3.out⟩
          | false =>
            have HBF := hide hb
            go_wp2
            exact ⟨⟨1, by omega, rfl, rfl, by go_num, (fun _ => HBF.out), (fun h => by omega), (fun h => by omega), (fun h => by omega), C3.out⟩, by simp [intOf]⟩
        · have hsf := fun (w : World) (a : Addr) (m : Mode) => run_store Tryz.prog w a (.func (.func 34) #[] #[]) m rfl
          have DC := hide ((Below.refl wr.heap.size wr).alloc (Nat.le_refl _) (.cells #[.int .i64 3, .func (.func 34) #[] #[]] 62))
          have WC := hide (W2.out.alloc W2.out.size (.cells #[.int .i64 3, .func (.func 34) #[] #[]] 62))
          have QC := hide (And.intro ((QJ.out.1.below HB2.out (by omega)).below DC.out (Nat.le_refl _)) ((QJ.out.2.below HB2.out (by omega)).below DC.out (Nat.le_refl _)))
          have BC := hide (HB2.out.alloc (by have := HB2.out.size; omega) (.cells #[.int .i64 3, .func (.func 34) #[] #[]] 62))
          have hcz : (wr.alloc (.cells #[.int .i64 3, .func (.func 34) #[] #[]] 62)).cell? ⟨wr.heap.size, 0, none⟩ = some (.int .i64 3) := by simp
          have hcl : wr.heap.size < (wr.alloc (.cells #[.int .i64 3, .func (.func 34) #[] #[]] 62)).heap.size := by simp
          go_wp2_with fail
          clear f0' f1' f2' f3' f4' f5' g0 g1 g2 hk0 hk1 hk2 hk3 hk4 hk5 hk6 hk7 hsf
          generalize wr.alloc (.cells #[.int .i64 3, .func (.func 34) #[] #[]] 62) = WX at DC WC QC BC hcz hcl ⊢
          refine (hasOff_any bd offd n cap sa0 n0 sc0 f0 sa1 n1 sc1 f1 (f k) a0 cap0 a1 cap1 _ hn0 hn1 (HS0.out.below WC.out (Nat.le_refl _)) (HS1.out.below WC.out (Nat.le_refl _)) HA0.out HA1.out QC.out.2 (HFL.out k hlt)).mono ?_
          rintro e w3 ⟨rfl, hB⟩
          have W3 := hide (WC.out.trans (hB.mono WC.out.size))
          have C3 := hide (BC.out.trans (hB.mono (by have := BC.out.size; omega)))
          have cz := (hB.cell (p := ⟨wr.heap.size, 0, none⟩) hcl).trans hcz
          clear hB hcz
          cases hb : hasB n0 f0 n1 f1 (f k) with
          | true =>
            have HCK : Hid (codeA n0 f0 n1 f1 f k = 3) := by show _ = _; rw [HCI.out]; rw [if_neg (by rw [N0.out (by omega)]; simp), if_pos hb]
            have HE : Hid (R = (3, (k : Int))) := by show _ = _; rw [HR.out, firF_first hlt HZ.out (by rw [HCK.out]; decide), HCK.out]
            go_wp2
            try rw [Exit.noGoto_ret]
            go_ret2
            exact ⟨by simp [HE.out], W3.out⟩
          | false =>
            have HBF := hide hb
            go_wp2
            exact ⟨⟨2, by omega, rfl, rfl, by go_num, (fun _ => N0.out (by omega)), (fun _ => HBF.out), (fun h => by omega), (fun h => by omega), C3.out⟩, by simp [intOf]⟩
        · have hsf := fun (w : World) (a : Addr) (m : Mode) => run_store Tryz.prog w a (.func (.func 21) #[] #[]) m rfl
          have DC := hide ((Below.refl wr.heap.size wr).alloc (Nat.le_refl _) (.cells #[.int .i64 4, .func (.func 21) #[] #[]] 62))
          have WC := hide (W2.out.alloc W2.out.size (.cells #[.int .i64 4, .func (.func 21) #[] #[]] 62))
          have QC := hide (And.intro ((QJ.out.1.below HB2.out (by omega)).below DC.out (Nat.le_refl _)) ((QJ.out.2.below HB2.out (by omega)).below DC.out (Nat.le_refl _)))
          have BC := hide (HB2.out.alloc (by have := HB2.out.size; omega) (.cells #[.int .i64 4, .func (.func 21) #[] #[]] 62))
          have hcz : (wr.alloc (.cells #[.int .i64 4, .func (.func 21) #[] #[]] 62)).cell? ⟨wr.heap.size, 0, none⟩ = some (.int .i64 4) := by simp
          have hcl : wr.heap.size < (wr.alloc (.cells #[.int .i64 4, .func (.func 21) #[] #[]] 62)).heap.size := by simp
          go_wp2_with fail
          clear f0' f1' f2' f3' f4' f5' g0 g1 g2 hk0 hk1 hk2 hk3 hk4 hk5 hk6 hk7 hsf
          generalize wr.alloc (.cells #[.int .i64 4, .func (.func 21) #[] #[]] 62) = WX at DC WC QC BC hcz hcl ⊢
          refine (strays_held sa0 n0 sc0 sa1 n1 sc1 bd offd n cap f k a0 cap0 a1 cap1 _ HACC.out hlt (HROW.out.below WC.out (Nat.le_refl _)) QC.out.1 QC.out.2 (HT2.out.below WC.out htb) (HPOW.out.below WC.out (Nat.le_refl _))).mono ?_
          rintro e w3 ⟨rfl, hB⟩
          have W3 := hide (WC.out.trans (hB.mono WC.out.size))
          have C3 := hide (BC.out.trans (hB.mono (by have := BC.out.size; omega)))
          have cz := (hB.cell (p := ⟨wr.heap.size, 0, none⟩) hcl).trans hcz
          clear hB hcz
          cases hb : strayB f k with
          | true =>
            have HCK : Hid (codeA n0 f0 n1 f1 f k = 4) := by show _ = _; rw [HCI.out]; rw [if_neg (by rw [N0.out (by omega)]; simp), if_neg (by rw [N1.out (by omega)]; simp), if_pos hb]
            have HE : Hid (R = (4, (k : Int))) := by show _ = _; rw [HR.out, firF_first hlt HZ.out (by rw [HCK.out]; decide), HCK.out]
            go_wp2
            try rw [Exit.noGoto_ret]
            go_ret2
            exact ⟨by simp [HE.out], W3.out⟩
          | false =>
            have HBF := hide hb
            go_wp2
            exact ⟨⟨3, by omega, rfl, rfl, by go_num, (fun _ => N0.out (by omega)), (fun _ => N1.out (by omega)), (fun _ => HBF.out), (fun h => by omega), C3.out⟩, by simp [intOf]⟩
        · have hsf := fun (w : World) (a : Addr) (m : Mode) => run_store Tryz.prog w a (.func (.func 22) #[] #[]) m rfl
          have DC := hide ((Below.refl wr.heap.size wr).alloc (Nat.le_refl _) (.cells #[.int .i64 5, .func (.func 22) #[] #[]] 62))
          have WC := hide (W2.out.alloc W2.out.size (.cells #[.int .i64 5, .func (.func 22) #[] #[]] 62))
          have QC := hide (And.intro ((QJ.out.1.below HB2.out (by omega)).below DC.out (Nat.le_refl _)) ((QJ.out.2.below HB2.out (by omega)).below DC.out (Nat.le_refl _)))
          have BC := hide (HB2.out.alloc (by have := HB2.out.size; omega) (.cells #[.int .i64 5, .func (.func 22) #[] #[]] 62))
          have hcz : (wr.alloc (.cells #[.int .i64 5, .func (.func 22) #[] #[]] 62)).cell? ⟨wr.heap.size, 0, none⟩ = some (.int .i64 5) := by simp
          have hcl : wr.heap.size < (wr.alloc (.cells #[.int .i64 5, .func (.func 22) #[] #[]] 62)).heap.size := by simp
          go_wp2_with fail
          clear f0' f1' f2' f3' f4' f5' g0 g1 g2 hk0 hk1 hk2 hk3 hk4 hk5 hk6 hk7 hsf
          generalize wr.alloc (.cells #[.int .i64 5, .func (.func 22) #[] #[]] 62) = WX at DC WC QC BC hcz hcl ⊢
          refine (ends_held sa0 n0 sc0 sa1 n1 sc1 bd offd n cap f k a0 cap0 a1 cap1 _ HACC.out hlt (HROW.out.below WC.out (Nat.le_refl _)) QC.out.1 QC.out.2 (HT2.out.below WC.out htb) (HPOW.out.below WC.out (Nat.le_refl _))).mono ?_
          rintro e w3 ⟨rfl, hB⟩
          have W3 := hide (WC.out.trans (hB.mono WC.out.size))
          have C3 := hide (BC.out.trans (hB.mono (by have := BC.out.size; omega)))
          have cz := (hB.cell (p := ⟨wr.heap.size, 0, none⟩) hcl).trans hcz
          clear hB hcz
          cases hb : endB f k with
          | true =>
            have HCK : Hid (codeA n0 f0 n1 f1 f k = 5) := by show _ = _; rw [HCI.out]; rw [if_neg (by rw [N0.out (by omega)]; simp), if_neg (by rw [N1.out (by omega)]; simp), if_neg (by rw [N2.out (by omega)]; simp), if_pos hb]
            have HE : Hid (R = (5, (k : Int))) := by show _ = _; rw [HR.out, firF_first hlt HZ.out (by rw [HCK.out]; decide), HCK.out]
            go_wp2
            try rw [Exit.noGoto_ret]
            go_ret2
            exact ⟨by simp [HE.out], W3.out⟩
          | false =>
            have HBF := hide hb
            go_wp2
            exact ⟨⟨4, by omega, rfl, rfl, by go_num, (fun _ => N0.out (by omega)), (fun _ => N1.out (by omega)), (fun _ => N2.out (by omega)), (fun _ => HBF.out), C3.out⟩, by simp [intOf]⟩
        · have HCK : Hid (codeA n0 f0 n1 f1 f k = 0) := by show _ = _; rw [HCI.out, if_neg (by rw [N0.out (by omega)]; simp), if_neg (by rw [N1.out (by omega)]; simp), if_neg (by rw [N2.out (by omega)]; simp), if_neg (by rw [N3.out (by omega)]; simp)]
          go_wp2
          exact ⟨⟨k + 1, by omega, rfl, rfl, by go_num, fun j hj => by
            by_cases e : j = k
            · subst e; exact HCK.out
            · exact HZ.out j (by omega), C2.out⟩, by simp [intOf]; omega⟩
    · obtain rfl : k = n := by omega
      have HE : Hid (R = (0, 0)) := by show _ = _; rw [HR.out]; exact firF_none HZ.out
      go_wp2
      try rw [Exit.noGoto_ret]
      go_ret2
      exact ⟨by simp [HE.out], BW.out⟩

end Go.Proofs.YtfhdecheaeoopaaGreatDoor.Vp
