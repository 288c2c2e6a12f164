/-
  impl: strays and endsOtherwise, whatever space is held (Audit).
-/
import Derived.Test.YtfhdecheaeoopaaGreatDoorZS
namespace Go.Proofs.YtfhdecheaeoopaaGreatDoor.Vp
open Go.RowKit

set_option maxRecDepth 100000 in
set_option maxHeartbeats 4000000 in
theorem strays_held (sa0 : Option Addr) (sn0 sc0 : Nat) (sa1 : Option Addr) (sn1 sc1 : Nat) (bd offd n cap : Nat) (f : Nat → Deed) (p : Nat) (a0 : Option Addr) (cap0 : Nat) (a1 : Option Addr) (cap1 : Nat) (w : World) (hacc : accOk f n = true) (hp : p < n) (hrow : RowDeed w bd offd n f) (hI : SlIns w a0 (f p).actN (f p).act) (hLk : SlLink w a1 (f p).linksN (f p).links) (hT2 : Tab2 w) (hPow : Pow w) :
    Calls Tryz.prog 21 #[.agg #[.slice (some ⟨bd, offd, none⟩) n cap, .slice sa0 sn0 sc0, .slice sa1 sn1 sc1], .agg #[.string (f p).name, .int .i64 (f p).kind, .int .i64 (f p).code, .string (f p).text, .slice a0 (f p).actN cap0, .slice a1 (f p).linksN cap1]] w fun e w' => e = .returned (.bool (strayB f p)) ∧ Below w.heap.size w w' := by
  obtain ⟨r, hr⟩ : ∃ r, r = strayB f p := ⟨_, rfl⟩
  rw [← hr]
  have HR := hide (show r = if (f p).kind = 3 then (!(turnK f p (stopAt f p)).over || decide (stopAt f p < (f p).linksN)) else false from hr)
  clear hr
  have A0 := hide (((Below.refl w.heap.size w).alloc (Nat.le_refl _) (.cells #[.slice (some ⟨bd, offd, none⟩) n cap, .slice sa0 sn0 sc0, .slice sa1 sn1 sc1] 59)).alloc (by simp) (.cells #[.string (f p).name, .int .i64 (f p).kind, .int .i64 (f p).code, .string (f p).text, .slice a0 (f p).actN cap0, .slice a1 (f p).linksN cap1] 54))
  have HROW := hide hrow
  have HI := hide hI
  have HLK := hide hLk
  have HT2 := hide hT2
  have HPOW := hide hPow
  have htb := hT2.1
  clear hrow hI hLk hT2 hPow
  by_cases hk : (f p).kind = 3
  · have hval : valid (f p).act (f p).actN = true := by
      rcases (accOk_deed hacc p hp).2 with h | h | h
      · omega
      · omega
      · exact h.2.2.2.1
    obtain ⟨pb, po, rfl, hri⟩ := row_of_valid HI.out hval
    have HRI := hide hri
    have HK := hide hk
    have HV : Hid (r = (!(turnK f p (stopAt f p)).over || decide (stopAt f p < (f p).linksN))) := by show _ = _; rw [HR.out, if_pos hk]
    have hle := stopK_le f p (f p).linksN 0
    have HLE : Hid (stopAt f p ≤ (f p).linksN) := by show stopK f p (f p).linksN 0 ≤ _; omega
    have HACC := hide hacc
    rw [hk] at A0
    clear hri hval HI hacc hle HR
    have RP := fun W (hB : Below w.heap.size w W) => replay_any bd offd n cap f p pb po cap0 a1 cap1 W HACC.out hp HK.out (HROW.out.below hB (Nat.le_refl _)) (HRI.out.below hB (Nat.le_refl _)) (HLK.out.below hB (Nat.le_refl _)) (HT2.out.below hB htb) (HPOW.out.below hB (Nat.le_refl _))
    generalize turnK f p (stopAt f p) = t at HV RP
    generalize stopAt f p = q at HV RP HLE
    rw [hk] at RP
    have HRP := hide RP
    clear RP
    rw [hk]
    go_enter Tryz.func21, Tryz.ntmps21
    go_wp2_with fail
    refine (HRP.out _ A0.out).mono ?_
    rintro e w1 ⟨rfl, hB⟩
    have B1 := hide (A0.out.trans (hB.mono A0.out.size))
    have B2 := hide (B1.out.alloc B1.out.size (.cells #[.bool t.over, .int .i64 t.code, .string t.text, .bool t.ask, .string t.name, .int .i64 t.steps] 85))
    have hle := HLE.out
    clear hB
    simp only [Turn.v]
    cases ho : t.over with
    | false =>
      obtain rfl : r = true := by rw [HV.out, ho]; rfl
      rw [ho] at B2
      go_wp2
      go_ret
      exact ⟨rfl, B2.out⟩
    | true =>
      rw [ho] at B2
      by_cases hq : q < (f p).linksN
      · obtain rfl : r = true := by rw [HV.out, ho]; simp [hq]
        have hgt : (0 : Int) < ((f p).linksN : Int) - (q : Int) := by omega
        go_wp2
        go_ret
        exact ⟨rfl, B2.out⟩
      · obtain rfl : r = false := by rw [HV.out, ho]; simp [hq]
        have hz : ((f p).linksN : Int) - (q : Int) = 0 := by omega
        rw [hz]
        go_wp2
        go_ret
        exact ⟨rfl, B2.out⟩
  · obtain rfl : r = false := by rw [HR.out, if_neg hk]
    go_enter Tryz.func21, Tryz.ntmps21
    go_wp2
    go_ret
    exact ⟨rfl, A0.out⟩

set_option maxRecDepth 100000 in
set_option maxHeartbeats 4000000 in
theorem ends_held (sa0 : Option Addr) (sn0 sc0 : Nat) (sa1 : Option Addr) (sn1 sc1 : Nat) (bd offd n cap : Nat) (f : Nat → Deed) (p : Nat) (a0 : Option Addr) (cap0 : Nat) (a1 : Option Addr) (cap1 : Nat) (w : World) (hacc : accOk f n = true) (hp : p < n) (hrow : RowDeed w bd offd n f) (hI : SlIns w a0 (f p).actN (f p).act) (hLk : SlLink w a1 (f p).linksN (f p).links) (hT2 : Tab2 w) (hPow : Pow w) :
    Calls Tryz.prog 22 #[.agg #[.slice (some ⟨bd, offd, none⟩) n cap, .slice sa0 sn0 sc0, .slice sa1 sn1 sc1], .agg #[.string (f p).name, .int .i64 (f p).kind, .int .i64 (f p).code, .string (f p).text, .slice a0 (f p).actN cap0, .slice a1 (f p).linksN cap1]] w fun e w' => e = .returned (.bool (endB f p)) ∧ Below w.heap.size w w' := by
  obtain ⟨r, hr⟩ : ∃ r, r = endB f p := ⟨_, rfl⟩
  rw [← hr]
  have HR := hide (show r = if (f p).kind = 3 then (!decide ((turnK f p (stopAt f p)).code = (f p).code) || !((turnK f p (stopAt f p)).text.toList == (f p).text.toList)) else false from hr)
  clear hr
  have A0 := hide (((Below.refl w.heap.size w).alloc (Nat.le_refl _) (.cells #[.slice (some ⟨bd, offd, none⟩) n cap, .slice sa0 sn0 sc0, .slice sa1 sn1 sc1] 59)).alloc (by simp) (.cells #[.string (f p).name, .int .i64 (f p).kind, .int .i64 (f p).code, .string (f p).text, .slice a0 (f p).actN cap0, .slice a1 (f p).linksN cap1] 54))
  have HROW := hide hrow
  have HI := hide hI
  have HLK := hide hLk
  have HT2 := hide hT2
  have HPOW := hide hPow
  have htb := hT2.1
  clear hrow hI hLk hT2 hPow
  by_cases hk : (f p).kind = 3
  · have hval : valid (f p).act (f p).actN = true := by
      rcases (accOk_deed hacc p hp).2 with h | h | h
      · omega
      · omega
      · exact h.2.2.2.1
    obtain ⟨pb, po, rfl, hri⟩ := row_of_valid HI.out hval
    have HRI := hide hri
    have HK := hide hk
    have HV : Hid (r = (!decide ((turnK f p (stopAt f p)).code = (f p).code) || !((turnK f p (stopAt f p)).text.toList == (f p).text.toList))) := by show _ = _; rw [HR.out, if_pos hk]
    have HACC := hide hacc
    rw [hk] at A0
    clear hri hval HI hacc HR
    have RP := fun W (hB : Below w.heap.size w W) => replay_any bd offd n cap f p pb po cap0 a1 cap1 W HACC.out hp HK.out (HROW.out.below hB (Nat.le_refl _)) (HRI.out.below hB (Nat.le_refl _)) (HLK.out.below hB (Nat.le_refl _)) (HT2.out.below hB htb) (HPOW.out.below hB (Nat.le_refl _))
    generalize turnK f p (stopAt f p) = t at HV RP
    generalize stopAt f p = q at HV RP
    rw [hk] at RP
    have HRP := hide RP
    clear RP
    rw [hk]
    go_enter Tryz.func22, Tryz.ntmps22
    go_wp2_with fail
    refine (HRP.out _ A0.out).mono ?_
    rintro e w1 ⟨rfl, hB⟩
    have d2 : w1.cell? ⟨w.heap.size + 1, 2, none⟩ = some (.int .i64 (f p).code) := (hB.cell (p := ⟨w.heap.size + 1, 2, none⟩) (by simp)).trans (by simp [go_sem])
    have d3 : w1.cell? ⟨w.heap.size + 1, 3, none⟩ = some (.string (f p).text) := (hB.cell (p := ⟨w.heap.size + 1, 3, none⟩) (by simp)).trans (by simp [go_sem])
    have hz1 : w.heap.size + 1 < w1.heap.size := by have := hB.size; simp at this; omega
    have B1 := hide (A0.out.trans (hB.mono A0.out.size))
    clear hB
    simp only [Turn.v]
    by_cases hc : t.code = (f p).code
    · cases ht : (t.text.toList == (f p).text.toList) with
      | true =>
        obtain rfl : r = false := by rw [HV.out]; simp [hc, ht]
        go_wp2
        go_ret
        exact ⟨rfl, B1.out.alloc B1.out.size _⟩
      | false =>
        obtain rfl : r = true := by rw [HV.out]; simp [hc, ht]
        go_wp2
        go_ret
        exact ⟨rfl, B1.out.alloc B1.out.size _⟩
    · obtain rfl : r = true := by rw [HV.out]; simp [hc]
      have hc2 : (t.code == (f p).code) = false := by simpa using hc
      go_wp2
      go_ret
      exact ⟨rfl, B1.out.alloc B1.out.size _⟩
  · obtain rfl : r = false := by rw [HR.out, if_neg hk]
    go_enter Tryz.func22, Tryz.ntmps22
    go_wp2
    go_ret
    exact ⟨rfl, A0.out⟩

end Go.Proofs.YtfhdecheaeoopaaGreatDoor.Vp
