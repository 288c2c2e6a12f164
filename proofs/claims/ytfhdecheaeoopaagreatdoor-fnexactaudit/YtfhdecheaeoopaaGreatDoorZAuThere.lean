/-
  spec: l4There.
-/
import Derived.Test.YtfhdecheaeoopaaGreatDoorZAuIns
import Derived.Test.YtfhdecheaeoopaaGreatDoorZInsB
import Derived.Test.YtfhdecheaeoopaaGreatDoorZAuLook
namespace Go.Proofs.YtfhdecheaeoopaaGreatDoor.Vp
open Go.RowKit

set_option maxRecDepth 100000 in
set_option maxHeartbeats 4000000 in
theorem there_any (d : Deed) (a0 : Option Addr) (cap0 : Nat) (a1 : Option Addr) (cap1 : Nat) (sa0 : Option Addr) (n0 sc0 : Nat) (f0 : Nat → Source) (sa1 : Option Addr) (n1 sc1 : Nat) (f1 : Nat → Target) (w : World) (hn0 : (n0 : Int) ≤ 1048576) (hn1 : (n1 : Int) ≤ 1048576) (hs0 : SlSource w sa0 n0 f0) (hs1 : SlTarget w sa1 n1 f1) (ha0 : ascTo (nm0 f0) n0 = true) (ha1 : ascTo (nm1 f1) n1 = true) (hI : SlIns w a0 d.actN d.act) (hft : d.actN ≤ 1048576) (hfs : ∀ i, i < n1 → FitsTarget (f1 i)) :
    Calls Tryz.prog 27 #[.agg #[.string d.name, .int .i64 d.kind, .int .i64 d.code, .string d.text, .slice a0 d.actN cap0, .slice a1 d.linksN cap1], .agg #[.slice sa0 n0 sc0, .slice sa1 n1 sc1]] w fun e w' => e = .returned (.bool (!lieB n0 f0 n1 f1 d)) ∧ Below w.heap.size w w' := by
  obtain ⟨r, hr⟩ : ∃ r, r = lieB n0 f0 n1 f1 d := ⟨_, rfl⟩
  rw [← hr]
  have HR := hide (show r = if d.kind = 1 then !srcB n0 f0 d.name d.text else if d.kind = 3 then !tgtB n1 f1 d.name d.actN d.act else hasN n0 f0 n1 f1 d.name from hr)
  clear hr
  have A0 := hide (((Below.refl w.heap.size w).alloc (Nat.le_refl _) (.cells #[.string d.name, .int .i64 d.kind, .int .i64 d.code, .string d.text, .slice a0 d.actN cap0, .slice a1 d.linksN cap1] 54)).alloc (by simp) (.cells #[.slice sa0 n0 sc0, .slice sa1 n1 sc1] 43))
  have HS0 := hide hs0
  have HS1 := hide hs1
  have HA0 := hide ha0
  have HA1 := hide ha1
  have HI := hide hI
  have HFS := hide hfs
  clear hs0 hs1 ha0 ha1 hI hfs
  have c0 : ((w.alloc (.cells #[.string d.name, .int .i64 d.kind, .int .i64 d.code, .string d.text, .slice a0 d.actN cap0, .slice a1 d.linksN cap1] 54)).alloc (.cells #[.slice sa0 n0 sc0, .slice sa1 n1 sc1] 43)).cell? ⟨w.heap.size, 0, none⟩ = some (.string d.name) := by simp [go_sem]
  have c1 : ((w.alloc (.cells #[.string d.name, .int .i64 d.kind, .int .i64 d.code, .string d.text, .slice a0 d.actN cap0, .slice a1 d.linksN cap1] 54)).alloc (.cells #[.slice sa0 n0 sc0, .slice sa1 n1 sc1] 43)).cell? ⟨w.heap.size, 1, none⟩ = some (.int .i64 d.kind) := by simp [go_sem]
  have c3 : ((w.alloc (.cells #[.string d.name, .int .i64 d.kind, .int .i64 d.code, .string d.text, .slice a0 d.actN cap0, .slice a1 d.linksN cap1] 54)).alloc (.cells #[.slice sa0 n0 sc0, .slice sa1 n1 sc1] 43)).cell? ⟨w.heap.size, 3, none⟩ = some (.string d.text) := by simp [go_sem]
  have c4 : ((w.alloc (.cells #[.string d.name, .int .i64 d.kind, .int .i64 d.code, .string d.text, .slice a0 d.actN cap0, .slice a1 d.linksN cap1] 54)).alloc (.cells #[.slice sa0 n0 sc0, .slice sa1 n1 sc1] 43)).cell? ⟨w.heap.size, 4, none⟩ = some (.slice a0 d.actN cap0) := by simp [go_sem]
  have c5 : ((w.alloc (.cells #[.string d.name, .int .i64 d.kind, .int .i64 d.code, .string d.text, .slice a0 d.actN cap0, .slice a1 d.linksN cap1] 54)).alloc (.cells #[.slice sa0 n0 sc0, .slice sa1 n1 sc1] 43)).cell? ⟨w.heap.size + 1, 0, none⟩ = some (.slice sa0 n0 sc0) := by simp [go_sem]
  have c6 : ((w.alloc (.cells #[.string d.name, .int .i64 d.kind, .int .i64 d.code, .string d.text, .slice a0 d.actN cap0, .slice a1 d.linksN cap1] 54)).alloc (.cells #[.slice sa0 n0 sc0, .slice sa1 n1 sc1] 43)).cell? ⟨w.heap.size + 1, 1, none⟩ = some (.slice sa1 n1 sc1) := by simp [go_sem]
  have hz : w.heap.size + 1 < ((w.alloc (.cells #[.string d.name, .int .i64 d.kind, .int .i64 d.code, .string d.text, .slice a0 d.actN cap0, .slice a1 d.linksN cap1] 54)).alloc (.cells #[.slice sa0 n0 sc0, .slice sa1 n1 sc1] 43)).heap.size := by simp
  go_enter Tryz.func27, Tryz.ntmps27
  go_wp2_with fail
  generalize (w.alloc (.cells #[.string d.name, .int .i64 d.kind, .int .i64 d.code, .string d.text, .slice a0 d.actN cap0, .slice a1 d.linksN cap1] 54)).alloc (.cells #[.slice sa0 n0 sc0, .slice sa1 n1 sc1] 43) = W at A0 c0 c1 c3 c4 c5 c6 hz ⊢
  refine (l2SourceAt_any sa0 n0 sc0 sa1 n1 sc1 f0 d.name _ hn0 (HS0.out.below A0.out (Nat.le_refl _))).mono ?_
  rintro e w1 ⟨s, rfl, hps, hB⟩
  have PS := hide hps
  have B1 := hide (A0.out.trans (hB.mono A0.out.size))
  have hw : w.heap.size < W.heap.size := by omega
  have x0 := (hB.cell (p := ⟨w.heap.size, 0, none⟩) hw).trans c0
  have x1 := (hB.cell (p := ⟨w.heap.size, 1, none⟩) hw).trans c1
  have x3 := (hB.cell (p := ⟨w.heap.size, 3, none⟩) hw).trans c3
  have x4 := (hB.cell (p := ⟨w.heap.size, 4, none⟩) hw).trans c4
  have x5 := (hB.cell (p := ⟨w.heap.size + 1, 0, none⟩) hz).trans c5
  have x6 := (hB.cell (p := ⟨w.heap.size + 1, 1, none⟩) hz).trans c6
  have hz1 : w.heap.size + 1 < w1.heap.size := Nat.lt_of_lt_of_le hz hB.size
  clear hB hps A0 c0 c1 c3 c4 c5 c6 hz hw
  go_wp2_with fail
  refine (l2TargetAt_any sa0 n0 sc0 sa1 n1 sc1 f1 d.name _ hn1 (HS1.out.below B1.out (Nat.le_refl _))).mono ?_
  rintro e w2 ⟨t, rfl, hpt, hB⟩
  have PT := hide hpt
  have B2 := hide (B1.out.trans (hB.mono B1.out.size))
  have hw : w.heap.size < w1.heap.size := by omega
  have y1 := (hB.cell (p := ⟨w.heap.size, 1, none⟩) hw).trans x1
  have y3 := (hB.cell (p := ⟨w.heap.size, 3, none⟩) hw).trans x3
  have y4 := (hB.cell (p := ⟨w.heap.size, 4, none⟩) hw).trans x4
  have y5 := (hB.cell (p := ⟨w.heap.size + 1, 0, none⟩) hz1).trans x5
  have y6 := (hB.cell (p := ⟨w.heap.size + 1, 1, none⟩) hz1).trans x6
  have hz2 : w.heap.size + 1 < w2.heap.size := Nat.lt_of_lt_of_le hz1 hB.size
  clear hB hpt B1 x0 x1 x3 x4 x5 x6 hz1 hw
  by_cases hk1 : d.kind = 1
  · have HV : Hid (r = !srcB n0 f0 d.name d.text) := by show _ = _; rw [HR.out, if_pos hk1]
    rw [hk1] at y1
    clear HR
    rcases PS.out with ⟨rfl, hq⟩ | ⟨i, rfl, hlt, hnm⟩
    · obtain rfl : r = true := by rw [HV.out]; unfold srcB; rw [any_none hq]; rfl
      clear PS hq
      have hg : decide ((0 : Int) ≤ -1) = false := rfl
      go_wp2_with fail
      go_quiet (fail)
      go_wp2
      go_ret
      exact ⟨rfl, below_drewN B2.out _⟩
    · have HV2 : Hid (r = !((f0 i).text.toList == d.text.toList)) := by show _ = _; rw [HV.out]; unfold srcB; rw [any_one HA0.out hlt hnm]
      obtain ⟨b, off, rfl, hrow⟩ := HS0.out.resolve_left (by omega)
      obtain ⟨e0, e1⟩ := (hrow.below B2.out (Nat.le_refl _)).2 i hlt
      have hlt2 : (i : Int) < n0 := by omega
      have hge : decide ((0 : Int) ≤ i) = true := decide_eq_true (by omega)
      clear PS hnm hrow HV HS0
      cases ht : ((f0 i).text.toList == d.text.toList) with
      | true =>
        obtain rfl : r = false := by rw [HV2.out, ht]; rfl
        go_wp2_with fail
        go_quiet (fail)
        go_wp2
        go_ret
        exact ⟨rfl, below_drewN B2.out _⟩
      | false =>
        obtain rfl : r = true := by rw [HV2.out, ht]; rfl
        go_wp2_with fail
        go_quiet (fail)
        go_wp2
        go_ret
        exact ⟨rfl, below_drewN B2.out _⟩
  · by_cases hk3 : d.kind = 3
    · have HV : Hid (r = !tgtB n1 f1 d.name d.actN d.act) := by show _ = _; rw [HR.out, if_neg hk1, if_pos hk3]
      rw [hk3] at y1
      clear HR
      rcases PT.out with ⟨rfl, hq⟩ | ⟨i, rfl, hlt, hnm⟩
      · obtain rfl : r = true := by rw [HV.out]; unfold tgtB; rw [any_none hq]; rfl
        clear PT hq
        have hg : decide ((0 : Int) ≤ -1) = false := rfl
        go_wp2_with fail
        go_quiet (fail)
        go_wp2
        go_ret
        exact ⟨rfl, below_drewN B2.out _⟩
      · have HV2 : Hid (r = !codeB (f1 i).act d.act (f1 i).actN d.actN) := by show _ = _; rw [HV.out]; unfold tgtB; rw [any_one HA1.out hlt hnm]
        obtain ⟨b, off, rfl, hrow⟩ := HS1.out.resolve_left (by omega)
        obtain ⟨e0, ka, kc, e1, q1⟩ := (hrow.below B2.out (Nat.le_refl _)).2 i hlt
        have Q1 := hide (show SlIns w2 ka (f1 i).actN (f1 i).act from q1)
        have hlt2 : (i : Int) < n1 := by omega
        have hge : decide ((0 : Int) ≤ i) = true := decide_eq_true (by omega)
        clear PT hnm hrow HV HS1 q1
        have EQ := hide (fun W (hB : Below w2.heap.size w2 W) => l4Same_any ka (f1 i).actN kc (f1 i).act a0 d.actN cap0 d.act W (HFS.out i hlt) hft (Q1.out.below hB (Nat.le_refl _)) ((HI.out.below B2.out (Nat.le_refl _)).below hB (Nat.le_refl _)))
        generalize codeB (f1 i).act d.act (f1 i).actN d.actN = c at HV2 EQ
        go_wp2_with fail
        go_region_with (first
          | (go_at_call 49; refine (EQ.out _ ?_).mono ?_; (first | exact Below.refl _ _ | exact (Below.refl _ _).drew); rintro e w3 ⟨rfl, hB⟩))
        all_goals
          go_simp
          go_wp2
          go_ret
          exact ⟨by simp [HV2.out], B2.out.trans (Below.mono ⟨hB.os, hB.tape, hB.output, hB.size, hB.block⟩ B2.out.size)⟩
    · have HV : Hid (r = hasN n0 f0 n1 f1 d.name) := by show _ = _; rw [HR.out, if_neg hk1, if_neg hk3]
      have hk1b : (d.kind == 1) = false := by simpa using hk1
      have hk3b : (d.kind == 3) = false := by simpa using hk3
      have HV2 : Hid (r = (decide (0 ≤ s) || decide (0 ≤ t))) := by show _ = _; rw [HV.out]; unfold hasN; rw [PS.out.has, PT.out.has]
      clear HR HV PS PT
      by_cases hs : 0 ≤ s
      · obtain rfl : r = true := by rw [HV2.out]; simp [hs]
        have hs2 : ¬ s < 0 := by omega
        go_wp2
        go_ret
        exact ⟨rfl, B2.out⟩
      · have hs2 : s < 0 := by omega
        by_cases ht : 0 ≤ t
        · obtain rfl : r = true := by rw [HV2.out]; simp [ht]
          have ht2 : ¬ t < 0 := by omega
          go_wp2
          go_ret
          exact ⟨by simp [ht2], B2.out⟩
        · obtain rfl : r = false := by rw [HV2.out]; simp [hs, ht]
          have ht2 : t < 0 := by omega
          go_wp2
          go_ret
          exact ⟨rfl, B2.out⟩

end Go.Proofs.YtfhdecheaeoopaaGreatDoor.Vp
