/-
  impl: liesOtherwise.
-/
import Derived.Test.YtfhdecheaeoopaaGreatDoorZAuIns
import Derived.Test.YtfhdecheaeoopaaGreatDoorZInsB
import Derived.Test.YtfhdecheaeoopaaGreatDoorZFdFind
namespace Go.Proofs.YtfhdecheaeoopaaGreatDoor.Vp
open Go.RowKit

set_option maxRecDepth 100000 in
set_option maxHeartbeats 4000000 in
theorem lies_any (bd offd n cap : Nat) (sa0 : Option Addr) (n0 sc0 : Nat) (f0 : Nat → Source) (sa1 : Option Addr) (n1 sc1 : Nat) (f1 : Nat → Target) (d : Deed) (a0 : Option Addr) (cap0 : Nat) (a1 : Option Addr) (cap1 : Nat) (w : World) (hn0 : (n0 : Int) ≤ 1048576) (hn1 : (n1 : Int) ≤ 1048576) (hs0 : SlSource w sa0 n0 f0) (hs1 : SlTarget w sa1 n1 f1) (ha0 : ascTo (nm0 f0) n0 = true) (ha1 : ascTo (nm1 f1) n1 = true) (hI : SlIns w a0 d.actN d.act) (hft : d.actN ≤ 1048576) (hfs : ∀ i, i < n1 → FitsTarget (f1 i)) :
    Calls Tryz.prog 33 #[.agg #[.slice (some ⟨bd, offd, none⟩) n cap, .slice sa0 n0 sc0, .slice sa1 n1 sc1], .agg #[.string d.name, .int .i64 d.kind, .int .i64 d.code, .string d.text, .slice a0 d.actN cap0, .slice a1 d.linksN cap1]] w fun e w' => e = .returned (.bool (lieB n0 f0 n1 f1 d)) ∧ Below w.heap.size w w' := by
  obtain ⟨r, hr⟩ : ∃ r, r = lieB n0 f0 n1 f1 d := ⟨_, rfl⟩
  rw [← hr]
  have HR := hide (show r = if d.kind = 1 then !srcB n0 f0 d.name d.text else if d.kind = 3 then !tgtB n1 f1 d.name d.actN d.act else hasN n0 f0 n1 f1 d.name from hr)
  clear hr
  have A0 := hide (((Below.refl w.heap.size w).alloc (Nat.le_refl _) (.cells #[.slice (some ⟨bd, offd, none⟩) n cap, .slice sa0 n0 sc0, .slice sa1 n1 sc1] 59)).alloc (by simp) (.cells #[.string d.name, .int .i64 d.kind, .int .i64 d.code, .string d.text, .slice a0 d.actN cap0, .slice a1 d.linksN cap1] 54))
  have HS0 := hide hs0
  have HS1 := hide hs1
  have HA0 := hide ha0
  have HA1 := hide ha1
  have HI := hide hI
  have HFS := hide hfs
  clear hs0 hs1 ha0 ha1 hI hfs
  by_cases hk1 : d.kind = 1
  · have HV : Hid (r = !srcB n0 f0 d.name d.text) := by show _ = _; rw [HR.out, if_pos hk1]
    clear HR
    rw [hk1] at A0 ⊢
    go_enter Tryz.func33, Tryz.ntmps33
    go_wp2_with fail
    refine (findSource_any sa0 n0 sc0 sa1 n1 sc1 f0 d.name _ hn0 (HS0.out.below A0.out (Nat.le_refl _)) HA0.out).mono ?_
    rintro e w1 ⟨i, rfl, hi, h1, h2, hB⟩
    have hat := isIn_at HA0.out hi h1 h2
    have g1 : w1.cell? ⟨w.heap.size, 1, none⟩ = some (.slice sa0 n0 sc0) := (hB.cell (p := ⟨w.heap.size, 1, none⟩) (by simp; omega)).trans (by simp [go_sem])
    have d3 : w1.cell? ⟨w.heap.size + 1, 3, none⟩ = some (.string d.text) := (hB.cell (p := ⟨w.heap.size + 1, 3, none⟩) (by simp)).trans (by simp [go_sem])
    have hz1 : w.heap.size + 1 < w1.heap.size := by have := hB.size; simp at this; omega
    have B1 := hide (A0.out.trans (hB.mono A0.out.size))
    clear hB h1 h2 A0
    cases hq : isIn (nm0 f0) n0 d.name with
    | false =>
      obtain rfl : r = true := by rw [HV.out]; unfold srcB; rw [any_none hq]; rfl
      clear hat
      go_wp2_with fail
      go_quiet (fail)
      go_wp2
      go_ret
      exact ⟨rfl, below_drewN B1.out _⟩
    | true =>
      rw [hq] at hat
      obtain ⟨hlt, hnm⟩ : i < n0 ∧ ((nm0 f0 i).toList == d.name.toList) = true := by simpa using hat.symm
      have HV2 : Hid (r = !((f0 i).text.toList == d.text.toList)) := by show _ = _; rw [HV.out]; unfold srcB; rw [any_one HA0.out hlt hnm]
      obtain ⟨b, off, rfl, hrow⟩ := HS0.out.resolve_left (by omega)
      obtain ⟨e0, e1⟩ := (hrow.below B1.out (Nat.le_refl _)).2 i hlt
      have hlt2 : (i : Int) < n0 := by omega
      clear hat hnm hrow HV HS0
      cases ht : ((f0 i).text.toList == d.text.toList) with
      | true =>
        obtain rfl : r = false := by rw [HV2.out, ht]; rfl
        go_wp2_with fail
        go_quiet (fail)
        go_wp2
        go_ret
        exact ⟨rfl, below_drewN B1.out _⟩
      | false =>
        obtain rfl : r = true := by rw [HV2.out, ht]; rfl
        go_wp2_with fail
        go_quiet (fail)
        go_wp2
        go_ret
        exact ⟨rfl, below_drewN B1.out _⟩
  · by_cases hk3 : d.kind = 3
    · have HV : Hid (r = !tgtB n1 f1 d.name d.actN d.act) := by show _ = _; rw [HR.out, if_neg hk1, if_pos hk3]
      clear HR
      rw [hk3] at A0 ⊢
      go_enter Tryz.func33, Tryz.ntmps33
      go_wp2_with fail
      refine (findTarget_any sa0 n0 sc0 sa1 n1 sc1 f1 d.name _ hn1 (HS1.out.below A0.out (Nat.le_refl _)) HA1.out).mono ?_
      rintro e w1 ⟨i, rfl, hi, h1, h2, hB⟩
      have hat := isIn_at HA1.out hi h1 h2
      have g2 : w1.cell? ⟨w.heap.size, 2, none⟩ = some (.slice sa1 n1 sc1) := (hB.cell (p := ⟨w.heap.size, 2, none⟩) (by simp; omega)).trans (by simp [go_sem])
      have d4 : w1.cell? ⟨w.heap.size + 1, 4, none⟩ = some (.slice a0 d.actN cap0) := (hB.cell (p := ⟨w.heap.size + 1, 4, none⟩) (by simp)).trans (by simp [go_sem])
      have hz1 : w.heap.size + 1 < w1.heap.size := by have := hB.size; simp at this; omega
      have B1 := hide (A0.out.trans (hB.mono A0.out.size))
      clear hB h1 h2 A0
      cases hq : isIn (nm1 f1) n1 d.name with
      | false =>
        obtain rfl : r = true := by rw [HV.out]; unfold tgtB; rw [any_none hq]; rfl
        clear hat
        go_wp2_with fail
        go_quiet (fail)
        go_wp2
        go_ret
        exact ⟨rfl, below_drewN B1.out _⟩
      | true =>
        rw [hq] at hat
        obtain ⟨hlt, hnm⟩ : i < n1 ∧ ((nm1 f1 i).toList == d.name.toList) = true := by simpa using hat.symm
        have HV2 : Hid (r = !codeB (f1 i).act d.act (f1 i).actN d.actN) := by show _ = _; rw [HV.out]; unfold tgtB; rw [any_one HA1.out hlt hnm]
        obtain ⟨b, off, rfl, hrow⟩ := HS1.out.resolve_left (by omega)
        obtain ⟨e0, ka, kc, e1, q1⟩ := (hrow.below B1.out (Nat.le_refl _)).2 i hlt
        have Q1 := hide (show SlIns w1 ka (f1 i).actN (f1 i).act from q1)
        have hlt2 : (i : Int) < n1 := by omega
        clear hat hnm hrow HV HS1 q1
        have EQ := hide (fun q => equalIns_any ka (f1 i).actN kc (f1 i).act a0 d.actN cap0 d.act (w1.drewN q) (HFS.out i hlt) hft (Q1.out.below (below_drewN (Below.refl _ _) q) (Nat.le_refl _)) ((HI.out.below B1.out (Nat.le_refl _)).below (below_drewN (Below.refl w1.heap.size w1) q) (Nat.le_refl _)))
        generalize codeB (f1 i).act d.act (f1 i).actN d.actN = c at HV2 EQ
        go_wp2_with fail
        go_quiet ((go_at_call 65; exact Calls.quiet_of (EQ.out _)))
        have B2 := hide (below_drewN B1.out nq)
        go_wp2
        go_ret
        exact ⟨by simp [HV2.out], B2.out⟩
    · have HV : Hid (r = hasN n0 f0 n1 f1 d.name) := by show _ = _; rw [HR.out, if_neg hk1, if_neg hk3]
      have hk1b : (d.kind == 1) = false := by simpa using hk1
      have hk3b : (d.kind == 3) = false := by simpa using hk3
      clear HR
      go_enter Tryz.func33, Tryz.ntmps33
      go_wp2_with fail
      refine (has_any sa0 n0 sc0 f0 sa1 n1 sc1 f1 d.name _ hn0 hn1 (HS0.out.below A0.out (Nat.le_refl _)) (HS1.out.below A0.out (Nat.le_refl _)) HA0.out HA1.out).mono ?_
      rintro e w1 ⟨rfl, hB⟩
      have B1 := hide (A0.out.trans (hB.mono A0.out.size))
      have HV2 : Hid ((isIn (nm0 f0) n0 d.name || isIn (nm1 f1) n1 d.name) = r) := HV.out.symm
      clear hB
      rw [HV2.out]
      go_wp2
      go_ret
      exact ⟨rfl, B1.out⟩

end Go.Proofs.YtfhdecheaeoopaaGreatDoor.Vp
