/-
  Put together of: DDeed, DAccount, DRowS, DEqStr, VpWord, VpOk, VpSpec, DName, CaPure, InsB, VpTab, VpImpl, VpSl, CaName.
-/
import Derived.Test.YtkgddbcjmejfaaaGreatDoorZC

/-
  Data: Deed: sizes, copies, comparisons; its cells hold slices. Written by tools/nest.py.
-/
namespace Go.Proofs.YtkgddbcjmejfaaaGreatDoor.Vp
open Go.RowKit

set_option maxHeartbeats 1000000 in
theorem szDeed_any (x : Deed) (a0 : Option Addr) (cap0 : Nat) (a1 : Option Addr) (cap1 : Nat) (left : Int) (w : World) (hz : SizedDeed x) (hv0 : SlIns w a0 x.actN x.act) (hv1 : SlLink w a1 x.linksN x.links) (l0 : 0 ≤ left) (l1 : left ≤ 1048576) :
    Calls Tryz.prog 46 #[.agg #[.string x.name, .int .i64 x.kind, .int .i64 x.code, .string x.text, .slice a0 x.actN cap0, .slice a1 x.linksN cap1], .int .i64 left] w fun e w' => ∃ r : Int, e = .returned (.int .i64 r) ∧ -1 ≤ r ∧ r ≤ left ∧ (0 ≤ r → FitsDeed x) ∧ Below w.heap.size w w' := by
  have V0 := hide hv0
  have V1 := hide hv1
  clear hv0 hv1
  have zname := hz.1
  have ztext := hz.2.1
  unfold maxLen at zname ztext
  have Sz := hide hz
  clear hz
  have B0 := hide ((Below.refl w.heap.size w).alloc (Nat.le_refl _) (.cells #[.string x.name, .int .i64 x.kind, .int .i64 x.code, .string x.text, .slice a0 x.actN cap0, .slice a1 x.linksN cap1] 96))
  go_enter Tryz.func46, Tryz.ntmps46
  go_wp2_with (first | (go_at_call 65; refine (szProgram_any a0 x.actN cap0 x.act _ _ ?_ ?_ (Sz.out.2.2).1.1 ?_ (Sz.out.2.2).1.2).mono ?_; omega; omega; exact V0.out.below B0.out (Nat.le_refl _); rintro e w1 ⟨r0, rfl, l0, m0, n0, hB0⟩; have B1 := hide (B0.out.trans (hB0.mono B0.out.size)); have bc0 := (bcell hB0).1; clear hB0) | (go_at_call 66; refine (szLinkS_any a1 x.linksN cap1 x.links _ _ ?_ ?_ (Sz.out.2.2).2.1 ?_ (Sz.out.2.2).2.2).mono ?_; omega; omega; exact V1.out.below B1.out (Nat.le_refl _); rintro e w2 ⟨r1, rfl, l1, m1, n1, hB1⟩; have B2 := hide (B1.out.trans (hB1.mono B1.out.size)); have bc1 := (bcell hB1).1; clear hB1))
  all_goals go_ret
  all_goals first
    | exact ⟨-1, rfl, by omega, by omega, fun _ => by omega, by first | exact B2.out | exact B1.out | exact B0.out⟩
    | exact ⟨_, rfl, by omega, by omega, fun _ => ⟨by have := n0 (by omega); omega, by have := n1 (by omega); omega⟩, B2.out⟩

set_option maxHeartbeats 400000 in
theorem szDeedS_big (a : Option Addr) (n cap : Nat) (left : Int) (w : World) (h0 : 0 ≤ left) (h1 : left ≤ 1048576) (hn : (n : Int) ≤ 9223372036854775807) (h : left < (n : Int)) :
    Calls Tryz.prog 30 #[.slice a n cap, .int .i64 left] w fun e w' => e = .returned (.int .i64 (-1)) ∧ w' = w := by
  go_enter Tryz.func30, Tryz.ntmps30
  go_wp2
  go_ret
  exact ⟨rfl, rfl⟩

set_option maxHeartbeats 1000000 in
theorem szDeedS_row (b off n cap : Nat) (f : Nat → Deed) (left : Int) (w : World) (h0 : (n : Int) ≤ left) (h1 : left ≤ 1048576) (hf : RowDeed w b off n f) (hs : ∀ i, i < n → SizedDeed (f i)) :
    Calls Tryz.prog 30 #[.slice (some ⟨b, off, none⟩) n cap, .int .i64 left] w fun e w' => ∃ r : Int, e = .returned (.int .i64 r) ∧ -1 ≤ r ∧ r ≤ left ∧ (0 ≤ r → ∀ i, i < n → FitsDeed (f i)) ∧ Below w.heap.size w w' := by
  have HF := hide hf
  have HS := hide hs
  clear hf hs
  go_enter Tryz.func30, Tryz.ntmps30
  go_wp2
  go_loopw [1, 5] (fun l i wr => ∃ k : Nat, ∃ r : Int, k ≤ n ∧ 0 ≤ r ∧ r ≤ left ∧ i = .int .i64 k ∧ l = .int .i64 r ∧ Hid (∀ i, i < k → FitsDeed (f i)) ∧ Below w.heap.size w wr) (fun _ i _ => n - (intOf i).toNat)
  case atStart => exact ⟨0, left - n, by omega, by omega, by omega, rfl, rfl, fun i hi => absurd hi (Nat.not_lt_zero _), Below.refl _ _⟩
  case round =>
    obtain ⟨k, r, hk, hr0, hr1, rfl, rfl, hfit, hB⟩ := hrel
    have HB := hide hB
    have hsz : w.heap.size ≤ wr.heap.size := hB.size
    clear hB
    by_cases hlt : k < n
    · obtain ⟨p0, p1, p2, p3, ⟨a0, cap0, s0, r0⟩, ⟨a1, cap1, s1, r1⟩⟩ := (HF.out.2 k hlt).below HB.out (Nat.le_refl _) HF.out.1
      have HR := hide (show SlIns wr a0 (f k).actN (f k).act ∧ SlLink wr a1 (f k).linksN (f k).links from ⟨r0, r1⟩)
      clear r0 r1
      go_wp2_with fail
      refine (szDeed_any (f k) a0 cap0 a1 cap1 _ _ (HS.out k hlt) HR.out.1 HR.out.2 (by omega) (by omega)).mono ?_
      rintro e w' ⟨r', rfl, hr2, hr3, hr4, hB'⟩
      have HR4 := hide hr4
      have HB' := hide (HB.out.trans (hB'.mono hsz))
      clear hr4 hB'
      go_wp2
      · go_ret
        exact ⟨-1, rfl, by omega, by omega, fun _ => by omega, HB'.out⟩
      · exact ⟨⟨k + 1, r', by omega, by omega, by omega, by go_num, rfl, fun i hi => by
          by_cases e : i = k
          · subst e; exact HR4.out (by omega)
          · exact hfit i (by omega), HB'.out⟩, by simp [intOf]; omega⟩
    · have e : k = n := by omega
      subst e
      go_wp2
      go_ret
      exact ⟨r, rfl, by omega, by omega, fun _ => hfit, HB.out⟩

set_option maxHeartbeats 400000 in
theorem szDeedS_nil (a : Option Addr) (cap : Nat) (left : Int) (w : World) (h0 : 0 ≤ left) (h1 : left ≤ 1048576) :
    Calls Tryz.prog 30 #[.slice a 0 cap, .int .i64 left] w fun e w' => e = .returned (.int .i64 left) ∧ w' = w := by
  go_enter Tryz.func30, Tryz.ntmps30
  go_wp2
  go_loop [1, 5] (fun l i => l = .int .i64 left ∧ i = .int .i64 0) (fun _ _ => 0)
  case atStart => exact ⟨by simp, rfl⟩
  case round =>
    obtain ⟨rfl, rfl⟩ := hrel
    go_wp2
    go_ret
    exact ⟨rfl, rfl⟩

theorem szDeedS_any (a : Option Addr) (n cap : Nat) (f : Nat → Deed) (left : Int) (w : World) (h0 : 0 ≤ left) (h1 : left ≤ 1048576) (hn : (n : Int) ≤ 9223372036854775807) (hv : SlDeed w a n f) (hs : ∀ i, i < n → SizedDeed (f i)) :
    Calls Tryz.prog 30 #[.slice a n cap, .int .i64 left] w fun e w' => ∃ r : Int, e = .returned (.int .i64 r) ∧ -1 ≤ r ∧ r ≤ left ∧ (0 ≤ r → (n : Int) ≤ left ∧ ∀ i, i < n → FitsDeed (f i)) ∧ Below w.heap.size w w' := by
  rcases hv with rfl | ⟨b, off, rfl, hr⟩
  · exact (szDeedS_nil a cap left w h0 h1).mono fun e w' ⟨a, b⟩ => ⟨_, a, by omega, by omega, fun _ => ⟨by omega, fun i hi => absurd hi (Nat.not_lt_zero _)⟩, by rw [b]; exact Below.refl _ _⟩
  · by_cases h : (n : Int) ≤ left
    · exact (szDeedS_row b off n cap f left w h h1 hr hs).mono fun e w' ⟨r, a, b, c, d, e⟩ => ⟨r, a, b, c, fun g => ⟨h, d g⟩, e⟩
    · exact (szDeedS_big _ n cap left w h0 h1 hn (by omega)).mono fun e w' ⟨a, b⟩ => ⟨_, a, by omega, by omega, fun _ => by omega, by rw [b]; exact Below.refl _ _⟩

set_option maxHeartbeats 2000000 in
theorem toDeed_any (x : Deed) (a0 : Option Addr) (cap0 : Nat) (a1 : Option Addr) (cap1 : Nat) (w : World) (hfit : FitsDeed x) (hv0 : SlIns w a0 x.actN x.act) (hv1 : SlLink w a1 x.linksN x.links) :
    Calls Tryz.prog 49 #[.agg #[.string x.name, .int .i64 x.kind, .int .i64 x.code, .string x.text, .slice a0 x.actN cap0, .slice a1 x.linksN cap1]] w fun e w' => ∃ g0 g1, e = .returned (.agg #[.string x.name, .int .i64 x.kind, .int .i64 x.code, .string x.text, .slice (some ⟨g0, 0, none⟩) x.actN x.actN, .slice (some ⟨g1, 0, none⟩) x.linksN x.linksN]) ∧ RowIns w' g0 0 x.actN x.act ∧ w.heap.size ≤ g0 ∧ RowLink w' g1 0 x.linksN x.links ∧ w.heap.size ≤ g1 ∧ Below w.heap.size w w' := by
  have V0 := hide hv0
  have V1 := hide hv1
  clear hv0 hv1
  have hfit := hide hfit
  have A0 : Hid (Below w.heap.size w (((w.alloc (.cells #[.string x.name, .int .i64 x.kind, .int .i64 x.code, .string x.text, .slice a0 x.actN cap0, .slice a1 x.linksN cap1] 96)).alloc (.cells #[.string ⟨#[]⟩, .int .i64 0, .int .i64 0, .string ⟨#[]⟩, .slice none 0 0, .slice none 0 0] 51)).alloc (.cells #[.string x.name, .int .i64 x.kind, .int .i64 x.code, .string x.text, .slice none 0 0, .slice none 0 0] 51))) := (((Below.refl _ _).alloc (Nat.le_refl _) _).alloc (by simp) _).alloc (by first | (simp; omega) | simp) _
  go_enter Tryz.func49, Tryz.ntmps49
  go_wp2_with fail
  refine (toProgram_any a0 x.actN cap0 x.act _ hfit.out.1 (V0.out.below A0.out (Nat.le_refl _))).mono ?_
  rintro e w1 ⟨g0, rfl, hR0, hg0, hB1⟩
  have R0 := hide hR0
  obtain ⟨hc1, hz1⟩ := bcell hB1
  have B1 := hide (A0.out.trans (hB1.mono A0.out.size))
  have hs1 : w.heap.size + 1 + 1 < w1.heap.size := by have := hB1.size; simp at this; omega
  have hu1 : w.heap.size + 1 < w1.heap.size := by omega
  have ht1 : w.heap.size < w1.heap.size := by omega
  have D1 := hide hB1
  clear hR0 hB1
  simp at hg0
  go_wp2_with fail
  have A1 := hide (B1.out.setCell (p := ⟨w.heap.size + 1 + 1, 4, none⟩) (by first | (simp; omega) | simp) (.slice (some ⟨g0, 0, none⟩) x.actN x.actN))
  refine (toLinkS_any a1 x.linksN cap1 x.links _ hfit.out.2 (V1.out.below A1.out (Nat.le_refl _))).mono ?_
  rintro e w2 ⟨g1, rfl, hR1, hg1, hB2⟩
  have R1 := hide hR1
  obtain ⟨hc2, hz2⟩ := bcell hB2
  have B2 := hide (A1.out.trans (hB2.mono A1.out.size))
  have hs2 : w.heap.size + 1 + 1 < w2.heap.size := by have := hB2.size; simp at this; omega
  have hu2 : w.heap.size + 1 < w2.heap.size := by omega
  have ht2 : w.heap.size < w2.heap.size := by omega
  have D2 := hide hB2
  clear hR1 hB2
  simp at hg1
  have q0 : w2.cell? ⟨w.heap.size + 1, 0, none⟩ = some (.string ⟨#[]⟩) := by
    rw [D2.out.cell (p := ⟨w.heap.size + 1, 0, none⟩) (by first | (simp; omega) | simp), cell_far _ _ _ _ (by simp)]
    rw [D1.out.cell (p := ⟨w.heap.size + 1, 0, none⟩) (by first | (simp; omega) | simp)]
    simp [go_sem]
  have q1 : w2.cell? ⟨w.heap.size + 1, 1, none⟩ = some (.int .i64 0) := by
    rw [D2.out.cell (p := ⟨w.heap.size + 1, 1, none⟩) (by first | (simp; omega) | simp), cell_far _ _ _ _ (by simp)]
    rw [D1.out.cell (p := ⟨w.heap.size + 1, 1, none⟩) (by first | (simp; omega) | simp)]
    simp [go_sem]
  have q2 : w2.cell? ⟨w.heap.size + 1, 2, none⟩ = some (.int .i64 0) := by
    rw [D2.out.cell (p := ⟨w.heap.size + 1, 2, none⟩) (by first | (simp; omega) | simp), cell_far _ _ _ _ (by simp)]
    rw [D1.out.cell (p := ⟨w.heap.size + 1, 2, none⟩) (by first | (simp; omega) | simp)]
    simp [go_sem]
  have q3 : w2.cell? ⟨w.heap.size + 1, 3, none⟩ = some (.string ⟨#[]⟩) := by
    rw [D2.out.cell (p := ⟨w.heap.size + 1, 3, none⟩) (by first | (simp; omega) | simp), cell_far _ _ _ _ (by simp)]
    rw [D1.out.cell (p := ⟨w.heap.size + 1, 3, none⟩) (by first | (simp; omega) | simp)]
    simp [go_sem]
  have q4 : w2.cell? ⟨w.heap.size + 1, 4, none⟩ = some (.slice none 0 0) := by
    rw [D2.out.cell (p := ⟨w.heap.size + 1, 4, none⟩) (by first | (simp; omega) | simp), cell_far _ _ _ _ (by simp)]
    rw [D1.out.cell (p := ⟨w.heap.size + 1, 4, none⟩) (by first | (simp; omega) | simp)]
    simp [go_sem]
  have q5 : w2.cell? ⟨w.heap.size + 1, 5, none⟩ = some (.slice none 0 0) := by
    rw [D2.out.cell (p := ⟨w.heap.size + 1, 5, none⟩) (by first | (simp; omega) | simp), cell_far _ _ _ _ (by simp)]
    rw [D1.out.cell (p := ⟨w.heap.size + 1, 5, none⟩) (by first | (simp; omega) | simp)]
    simp [go_sem]
  go_wp2
  exact bodyPost_ret (v := .agg #[.string x.name, .int .i64 x.kind, .int .i64 x.code, .string x.text, .slice (some ⟨g0, 0, none⟩) x.actN x.actN, .slice (some ⟨g1, 0, none⟩) x.linksN x.linksN]) (by simp [results, Tryz.results49, go_sem, q0, q1, q2, q3, q4, q5]) rfl ⟨g0, g1, rfl, ((((((((R0.out.setOther _ (by first | (simp; omega) | simp) _).below D2.out (Nat.le_refl _)).setOther _ (by first | (simp; omega) | simp) _).setOther _ (by first | (simp; omega) | simp) _).setOther _ (by first | (simp; omega) | simp) _).setOther _ (by first | (simp; omega) | simp) _).setOther _ (by first | (simp; omega) | simp) _).setOther _ (by first | (simp; omega) | simp) _).setOther _ (by first | (simp; omega) | simp) _, by omega, (((((((R1.out).setOther _ (by first | (simp; omega) | simp) _).setOther _ (by first | (simp; omega) | simp) _).setOther _ (by first | (simp; omega) | simp) _).setOther _ (by first | (simp; omega) | simp) _).setOther _ (by first | (simp; omega) | simp) _).setOther _ (by first | (simp; omega) | simp) _).setOther _ (by first | (simp; omega) | simp) _, by omega, (((((((B2.out).setCell (by first | (simp; omega) | simp) _).setCell (by first | (simp; omega) | simp) _).setCell (by first | (simp; omega) | simp) _).setCell (by first | (simp; omega) | simp) _).setCell (by first | (simp; omega) | simp) _).setCell (by first | (simp; omega) | simp) _).setCell (by first | (simp; omega) | simp) _⟩

set_option maxHeartbeats 2000000 in
theorem toDeedS_row (b off n cap : Nat) (f : Nat → Deed) (w : World) (hn : n ≤ 1048576) (hf : RowDeed w b off n f) (hm : ∀ i, i < n → FitsDeed (f i)) :
    Calls Tryz.prog 34 #[.slice (some ⟨b, off, none⟩) n cap] w fun e w' => ∃ g, e = .returned (.slice (some ⟨g, 0, none⟩) n n) ∧ OwnDeed w' g n n f ∧ w.heap.size ≤ g ∧ Below w.heap.size w w' := by
  have HF := hide hf
  have HM := hide hm
  clear hf hm
  have hmk := mkDeed n hn
  go_enter Tryz.func34, Tryz.ntmps34
  go_wp2
  clear hmk
  go_loopw [4] (fun i wr => ∃ k : Nat, k ≤ n ∧ i = .int .i64 k ∧ OwnDeed wr w.heap.size n k f ∧ Below w.heap.size w wr) (fun i _ => n - (intOf i).toNat)
  case atStart => exact ⟨0, by omega, rfl, ownDeed_start w n f, (Below.refl _ _).alloc (Nat.le_refl _) _⟩
  case round =>
    obtain ⟨k, hk, rfl, hO, hB⟩ := hrel
    have HO := hide hO
    have HB := hide hB
    have hsz : w.heap.size ≤ wr.heap.size := hB.size
    have hlo : w.heap.size < wr.heap.size := hO.lt
    clear hB
    by_cases hlt : k < n
    · obtain ⟨p0, p1, p2, p3, ⟨a0, cap0, s0, r0⟩, ⟨a1, cap1, s1, r1⟩⟩ := (HF.out.2 k hlt).below HB.out (Nat.le_refl _) HF.out.1
      have HR := hide (show SlIns wr a0 (f k).actN (f k).act ∧ SlLink wr a1 (f k).linksN (f k).links from ⟨r0, r1⟩)
      clear hO r0 r1
      go_wp2_with fail
      refine (toDeed_any (f k) a0 cap0 a1 cap1 _ (HM.out k hlt) HR.out.1 HR.out.2).mono ?_
      rintro e w1 ⟨g0, g1, rfl, hR0, hg0, hR1, hg1, hB1⟩
      have HO1 := hide (HO.out.below hB1 (Nat.le_refl _))
      have R0 := hide hR0
      have R1 := hide hR1
      have HB1 := hide (HB.out.trans (hB1.mono hsz))
      clear hB1 hR0 hR1
      obtain ⟨F, G0, G1, hr, _⟩ := HO1.out
      have d0 := hr.cell (i := k * 6) (by omega)
      have z0 := hr.frozen (k * 6)
      have d1 := hr.cell (i := k * 6 + 1) (by omega)
      have z1 := hr.frozen (k * 6 + 1)
      have d2 := hr.cell (i := k * 6 + 2) (by omega)
      have z2 := hr.frozen (k * 6 + 2)
      have d3 := hr.cell (i := k * 6 + 3) (by omega)
      have z3 := hr.frozen (k * 6 + 3)
      have d4 := hr.cell (i := k * 6 + 4) (by omega)
      have z4 := hr.frozen (k * 6 + 4)
      have d5 := hr.cell (i := k * 6 + 5) (by omega)
      have z5 := hr.frozen (k * 6 + 5)
      clear hr p0 p1 p2 p3 s0 s1
      go_wp2
      exact ⟨⟨k + 1, by omega, by go_num, HO1.out.step R0.out (by omega) R1.out (by omega), ((((((HB1.out).setCell (Nat.le_refl _) _).setCell (Nat.le_refl _) _).setCell (Nat.le_refl _) _).setCell (Nat.le_refl _) _).setCell (Nat.le_refl _) _).setCell (Nat.le_refl _) _⟩, by simp [intOf]; omega⟩
    · have e : k = n := by omega
      subst e
      clear hO
      go_wp2
      go_ret
      exact ⟨_, rfl, HO.out, Nat.le_refl _, HB.out⟩

set_option maxHeartbeats 1000000 in
theorem toDeedS_nil (a : Option Addr) (cap : Nat) (f : Nat → Deed) (w : World) :
    Calls Tryz.prog 34 #[.slice a 0 cap] w fun e w' => ∃ g, e = .returned (.slice (some ⟨g, 0, none⟩) 0 0) ∧ OwnDeed w' g 0 0 f ∧ w.heap.size ≤ g ∧ Below w.heap.size w w' := by
  have hmk : ∀ w : World, (Instr.makeSlice 38 (.int .i64 0) (.int .i64 0)).run Tryz.prog w = .ok (.slice (some ⟨w.heap.size, 0, none⟩) 0 0) (w.alloc (.cells (zerosDeed 0) 51)) := fun w => mkDeed 0 (by omega) w
  go_enter Tryz.func34, Tryz.ntmps34
  go_wp2
  clear hmk
  go_loop [4] (fun i => i = .int .i64 0) (fun _ => 0)
  case atStart => rfl
  case round =>
    subst hrel
    go_wp2
    go_ret
    exact ⟨_, rfl, ownDeed_start w 0 f, Nat.le_refl _, (Below.refl _ _).alloc (Nat.le_refl _) _⟩

theorem toDeedS_any (a : Option Addr) (n cap : Nat) (f : Nat → Deed) (w : World) (hn : n ≤ 1048576) (hv : SlDeed w a n f) (hm : ∀ i, i < n → FitsDeed (f i)) :
    Calls Tryz.prog 34 #[.slice a n cap] w fun e w' => ∃ g, e = .returned (.slice (some ⟨g, 0, none⟩) n n) ∧ OwnDeed w' g n n f ∧ w.heap.size ≤ g ∧ Below w.heap.size w w' := by
  rcases hv with rfl | ⟨b, off, rfl, hr⟩
  · exact toDeedS_nil a cap f w
  · exact toDeedS_row b off n cap f w hn hr hm

end Go.Proofs.YtkgddbcjmejfaaaGreatDoor.Vp

/-
  Data: Account, a struct of one slice of Deed. Written by tools/wrap.py.
-/
namespace Go.Proofs.YtkgddbcjmejfaaaGreatDoor.Vp
open Go.RowKit

set_option maxHeartbeats 400000 in
theorem szAccount_any (a : Option Addr) (n cap : Nat) (f : Nat → Deed) (left : Int) (w : World) (h0 : 0 ≤ left) (h1 : left ≤ 1048576) (hn : (n : Int) ≤ 9223372036854775807) (hv : SlDeed w a n f) (hs : ∀ i, i < n → SizedDeed (f i)) :
    Calls Tryz.prog 14 #[.agg #[.slice a n cap], .int .i64 left] w fun e w' => ∃ r : Int, e = .returned (.int .i64 r) ∧ -1 ≤ r ∧ r ≤ left ∧ (0 ≤ r → (n : Int) ≤ left ∧ ∀ i, i < n → FitsDeed (f i)) ∧ Below w.heap.size w w' := by
  have HV := hide hv
  have HS := hide hs
  clear hv hs
  go_enter Tryz.func14, Tryz.ntmps14
  go_wp2_with fail
  refine (szDeedS_any a n cap f left _ h0 h1 hn (HV.out.below ((Below.refl _ _).alloc (Nat.le_refl _) _) (Nat.le_refl _)) HS.out).mono ?_
  rintro e w' ⟨r, rfl, hr1, hr2, hr3, hB⟩
  go_wp2
  all_goals go_ret
  · exact ⟨-1, rfl, by omega, by omega, fun _ => by omega, ((Below.refl _ _).alloc (Nat.le_refl _) _).trans (hB.mono (by simp))⟩
  · exact ⟨r, rfl, hr1, hr2, hr3, ((Below.refl _ _).alloc (Nat.le_refl _) _).trans (hB.mono (by simp))⟩

set_option maxHeartbeats 1000000 in
theorem toAccount_any (a : Option Addr) (n cap : Nat) (f : Nat → Deed) (w : World) (hn : n ≤ 1048576) (hv : SlDeed w a n f) (hm : ∀ i, i < n → FitsDeed (f i)) :
    Calls Tryz.prog 16 #[.agg #[.slice a n cap]] w fun e w' => ∃ g, e = .returned (.agg #[.slice (some ⟨g, 0, none⟩) n n]) ∧ OwnDeed w' g n n f ∧ w.heap.size ≤ g ∧ Below w.heap.size w w' := by
  have HV := hide hv
  clear hv
  go_enter Tryz.func16, Tryz.ntmps16
  go_wp2_with fail
  refine (toDeedS_any a n cap f _ hn (HV.out.below ((((Below.refl _ _).alloc (Nat.le_refl _) _).alloc (by simp) _).alloc (by simp; omega) _) (Nat.le_refl _)) hm).mono ?_
  rintro e w' ⟨g, rfl, hv', hg, hB⟩
  have HV' := hide hv'
  have HB := hide hB
  obtain ⟨hc, hz⟩ := bcell hB
  clear hv' hB
  simp at hg
  go_wp2
  refine bodyPost_ret (v := .agg #[.slice (some ⟨g, 0, none⟩) n n]) (by simp [results, Tryz.results16, go_sem, hc]) rfl ⟨g, rfl, (HV'.out.setOther _ (by simp; omega) _).setOther _ (by simp; omega) _, by omega, ?_⟩
  exact ((((((Below.refl _ _).alloc (Nat.le_refl _) _).alloc (by simp) _).alloc (by simp; omega) _).trans (HB.out.mono (by simp; omega))).setCell (by simp; omega) _).setCell (by simp) _

end Go.Proofs.YtkgddbcjmejfaaaGreatDoor.Vp

/-
  Data: rows of texts.
-/
namespace Go.Proofs.YtkgddbcjmejfaaaGreatDoor.Vp
open Go.RowKit

/-- A row of n texts in block b, from off on. -/
def RowStr (w : World) (b off n : Nat) (f : Nat → ByteArray) : Prop := b < w.heap.size ∧ ∀ i, i < n → w.cell? ⟨b, off + i, none⟩ = some (.string (f i))
theorem RowStr.below {w w' : World} {B b off n : Nat} {f : Nat → ByteArray} (h : RowStr w b off n f) (hb : Below B w w') (hB : w.heap.size ≤ B) : RowStr w' b off n f :=
  ⟨Nat.lt_of_lt_of_le h.1 hb.size, fun i hi => (hb.cell (p := ⟨b, _, none⟩) (Nat.lt_of_lt_of_le h.1 hB)).trans (h.2 i hi)⟩
theorem RowStr.low {w w' : World} {B b off n : Nat} {f : Nat → ByteArray} (h : RowStr w b off n f) (hb : Below B w w') (hB : b < B) : RowStr w' b off n f :=
  ⟨Nat.lt_of_lt_of_le h.1 hb.size, fun i hi => (hb.cell (p := ⟨b, _, none⟩) hB).trans (h.2 i hi)⟩
theorem RowStr.setOther {w : World} {g n off : Nat} {f : Nat → ByteArray} (h : RowStr w g off n f) (p : Addr) (hp : p.block ≠ g) (v : Value) : RowStr (w.setCell p v) g off n f :=
  ⟨by simpa using h.1, fun i hi => (World.cell?_of_block (w := w) (a := ⟨g, off + i, none⟩) (Below.heap_setCell w p v g (fun e => hp e.symm))).trans (h.2 i hi)⟩
def SlStr (w : World) (a : Option Addr) (n : Nat) (f : Nat → ByteArray) : Prop := n = 0 ∨ ∃ b off, a = some ⟨b, off, none⟩ ∧ RowStr w b off n f
theorem SlStr.below {w w' : World} {B : Nat} {a : Option Addr} {n : Nat} {f : Nat → ByteArray} (h : SlStr w a n f) (hb : Below B w w') (hB : w.heap.size ≤ B) : SlStr w' a n f := by
  rcases h with h | ⟨b, off, hv, hr⟩
  · exact .inl h
  · exact .inr ⟨b, off, hv, hr.below hb hB⟩
theorem RowStr.sl {w : World} {b off n : Nat} {f : Nat → ByteArray} (h : RowStr w b off n f) : SlStr w (some ⟨b, off, none⟩) n f := .inr ⟨b, off, rfl, h⟩
theorem infoString : (Tryz.prog.info? 9).map (fun i => (i.zero, i.size, i.bytes)) = some (some (.string ⟨#[]⟩), 1, 16) := by kernel_rfl

end Go.Proofs.YtkgddbcjmejfaaaGreatDoor.Vp

/-
  Rows of texts compared.
-/
namespace Go.Proofs.YtkgddbcjmejfaaaGreatDoor.Vp
open Go.RowKit

set_option maxHeartbeats 1000000 in
theorem eqStringS_row (b off cap b2 off2 cap2 n : Nat) (f : Nat → ByteArray) (w : World) (hn : n ≤ 1048576) (hf : RowStr w b off n f) (hf2 : RowStr w b2 off2 n f) :
    Calls Tryz.prog 9 #[.slice (some ⟨b, off, none⟩) n cap, .slice (some ⟨b2, off2, none⟩) n cap2] w fun e w' => e = .returned (.bool true) ∧ Below w.heap.size w w' := by
  have HF := hide hf
  have HF2 := hide hf2
  clear hf hf2
  go_enter Tryz.func9, Tryz.ntmps9
  go_wp2
  go_loopw [5] (fun i wr => ∃ k : Nat, k ≤ n ∧ i = .int .i64 k ∧ Below w.heap.size w wr) (fun i _ => n - (intOf i).toNat)
  case atStart => exact ⟨0, by omega, rfl, Below.refl _ _⟩
  case round =>
    obtain ⟨k, hk, rfl, hB⟩ := hrel
    have HB := hide hB
    clear hB
    by_cases hlt : k < n
    · have c0 := (HF.out.below HB.out (Nat.le_refl _)).2 k hlt
      have d0 := (HF2.out.below HB.out (Nat.le_refl _)).2 k hlt
      go_wp2_with fail
      go_quiet (fail)
      have HB1 := hide (below_drewN HB.out nq)
      clear c0 d0
      generalize wr.drewN nq = W at HB1 ⊢
      have c0 := (HF.out.below HB1.out (Nat.le_refl _)).2 k hlt
      have d0 := (HF2.out.below HB1.out (Nat.le_refl _)).2 k hlt
      go_wp2
      exact ⟨⟨k + 1, by omega, by go_num, HB1.out⟩, by simp [intOf]; omega⟩
    · have e : k = n := by omega
      subst e
      go_wp2
      go_ret
      exact ⟨rfl, HB.out⟩

set_option maxHeartbeats 1000000 in
theorem eqStringS_nil (a a2 : Option Addr) (cap cap2 : Nat) (w : World) :
    Calls Tryz.prog 9 #[.slice a 0 cap, .slice a2 0 cap2] w fun e w' => e = .returned (.bool true) ∧ w' = w := by
  go_enter Tryz.func9, Tryz.ntmps9
  go_wp2
  go_loop [5] (fun i => i = .int .i64 0) (fun _ => 0)
  case atStart => rfl
  case round =>
    subst hrel
    go_wp2
    go_ret
    exact ⟨rfl, rfl⟩

theorem eqStringS_any (a a2 : Option Addr) (cap cap2 n : Nat) (f : Nat → ByteArray) (w : World) (hn : n ≤ 1048576) (h : SlStr w a n f) (h2 : SlStr w a2 n f) :
    Calls Tryz.prog 9 #[.slice a n cap, .slice a2 n cap2] w fun e w' => e = .returned (.bool true) ∧ Below w.heap.size w w' := by
  by_cases hz : n = 0
  · subst hz
    exact (eqStringS_nil a a2 cap cap2 w).mono fun _ _ ⟨a, b⟩ => ⟨a, by rw [b]; exact Below.refl _ _⟩
  · rcases h with h | ⟨b, off, rfl, hf⟩
    · exact absurd h hz
    · rcases h2 with h | ⟨b2, off2, rfl, hf2⟩
      · exact absurd h hz
      · exact eqStringS_row b off cap b2 off2 cap2 n f w hn hf hf2

end Go.Proofs.YtkgddbcjmejfaaaGreatDoor.Vp

/-
  l1Word: the word and the operand's kind of an instruction.
-/
namespace Go.Proofs.YtkgddbcjmejfaaaGreatDoor.Vp
open Go.RowKit

/-- The word and the operand's kind of an instruction. -/
def word : Int → List UInt8
  | 1 => [108, 105, 116] | 2 => [99, 97, 116] | 3 => [99, 117, 116] | 4 => [114, 101, 115, 116] | 5 => [119, 111, 114, 100] | 6 => [115, 97, 109, 101] | 7 => [100, 117, 112] | 8 => [115, 119, 97, 112] | 9 => [100, 114, 111, 112]
  | 10 => [106, 117, 109, 112] | 11 => [117, 110, 108, 101, 115, 115] | 12 => [97, 115, 107] | 13 => [104, 97, 115] | 14 => [102, 97, 105, 108] | 15 => [101, 110, 100] | _ => []
def kind : Int → Int
  | 1 => 1 | 3 => 2 | 4 => 2 | 5 => 2 | 10 => 3 | 11 => 3 | _ => 0

set_option maxHeartbeats 1000000 in
theorem l1Word_any (op : Int) (w : World) :
    Calls Tryz.prog 128 #[.int .i64 op] w fun e w' => e = .returned (.tuple #[.string ⟨(word op).toArray⟩, .int .i64 (kind op)]) ∧ w' = w := by
  by_cases h : 1 ≤ op ∧ op ≤ 15
  · have hc : op = 1 ∨ op = 2 ∨ op = 3 ∨ op = 4 ∨ op = 5 ∨ op = 6 ∨ op = 7 ∨ op = 8 ∨ op = 9 ∨ op = 10 ∨ op = 11 ∨ op = 12 ∨ op = 13 ∨ op = 14 ∨ op = 15 := by omega
    clear h
    rcases hc with rfl | rfl | rfl | rfl | rfl | rfl | rfl | rfl | rfl | rfl | rfl | rfl | rfl | rfl | rfl
    all_goals
      go_enter Tryz.func128, Tryz.ntmps128
      go_wp2
      go_ret2
      exact ⟨rfl, rfl⟩
  · have hw : word op = [] := by
      unfold word
      split <;> first | omega | rfl
    have hk : kind op = 0 := by
      unfold kind
      split <;> first | omega | rfl
    rw [hw, hk]
    clear hw hk
    rcases (show op < 1 ∨ 15 < op by omega) with h | h
    all_goals
      go_enter Tryz.func128, Tryz.ntmps128
      go_wp2
      go_ret2
      exact ⟨rfl, rfl⟩

end Go.Proofs.YtkgddbcjmejfaaaGreatDoor.Vp

/-
  l1InsOk and validIns: the same test.
-/
namespace Go.Proofs.YtkgddbcjmejfaaaGreatDoor.Vp
open Go.RowKit

def mostText (op : Int) : Int := if op = 1 then 2000 else 0
def mostN (op : Int) : Int := if op = 3 ∨ op = 4 ∨ op = 5 then 2000 else if op = 10 ∨ op = 11 then 200 else 0
def insOk (op : Int) (sz : Nat) (n : Int) : Bool := decide (1 ≤ op ∧ op ≤ 15 ∧ (sz : Int) ≤ mostText op ∧ 0 ≤ n ∧ n ≤ mostN op)


set_option maxHeartbeats 1000000 in
theorem l1InsOk_ne (op : Int) (s : ByteArray) (n : Int) (w : World) (hs : s.size ≤ maxLen) (hz : ¬ s.toList = []) (h0 : 0 < s.size) :
    Calls Tryz.prog 115 #[.agg #[.int .i64 op, .string s, .int .i64 n]] w fun e w' => e = .returned (.bool (insOk op s.size n)) ∧ Below w.heap.size w w' := by
  unfold maxLen at hs
  by_cases h : 1 ≤ op ∧ op ≤ 15
  · have hc : op = 1 ∨ op = 2 ∨ op = 3 ∨ op = 4 ∨ op = 5 ∨ op = 6 ∨ op = 7 ∨ op = 8 ∨ op = 9 ∨ op = 10 ∨ op = 11 ∨ op = 12 ∨ op = 13 ∨ op = 14 ∨ op = 15 := by omega
    clear h
    rcases hc with rfl | rfl | rfl | rfl | rfl | rfl | rfl | rfl | rfl | rfl | rfl | rfl | rfl | rfl | rfl
    all_goals
      go_enter Tryz.func115, Tryz.ntmps115
      go_wp2
      all_goals go_ret
      all_goals refine ⟨ret_bool ?_, (Below.refl _ _).alloc (Nat.le_refl _) _⟩
      all_goals (rw [Bool.eq_iff_iff]; generalize s.size = z at *; simp [insOk, mostText, mostN]; try omega)
  · rcases (show op < 1 ∨ 15 < op by omega) with h | h
    all_goals
      go_enter Tryz.func115, Tryz.ntmps115
      go_wp2
      go_ret
      refine ⟨ret_bool ?_, (Below.refl _ _).alloc (Nat.le_refl _) _⟩
      rw [Bool.eq_iff_iff]; simp [insOk]; omega

set_option maxHeartbeats 1000000 in
theorem l1InsOk_em (op : Int) (n : Int) (w : World) :
    Calls Tryz.prog 115 #[.agg #[.int .i64 op, .string ⟨#[]⟩, .int .i64 n]] w fun e w' => e = .returned (.bool (insOk op 0 n)) ∧ Below w.heap.size w w' := by
  by_cases h : 1 ≤ op ∧ op ≤ 15
  · have hc : op = 1 ∨ op = 2 ∨ op = 3 ∨ op = 4 ∨ op = 5 ∨ op = 6 ∨ op = 7 ∨ op = 8 ∨ op = 9 ∨ op = 10 ∨ op = 11 ∨ op = 12 ∨ op = 13 ∨ op = 14 ∨ op = 15 := by omega
    clear h
    rcases hc with rfl | rfl | rfl | rfl | rfl | rfl | rfl | rfl | rfl | rfl | rfl | rfl | rfl | rfl | rfl
    all_goals
      go_enter Tryz.func115, Tryz.ntmps115
      go_wp2
      all_goals go_ret
      all_goals refine ⟨ret_bool ?_, (Below.refl _ _).alloc (Nat.le_refl _) _⟩
      all_goals (rw [Bool.eq_iff_iff]; simp [insOk, mostText, mostN]; try omega)
  · rcases (show op < 1 ∨ 15 < op by omega) with h | h
    all_goals
      go_enter Tryz.func115, Tryz.ntmps115
      go_wp2
      go_ret
      refine ⟨ret_bool ?_, (Below.refl _ _).alloc (Nat.le_refl _) _⟩
      rw [Bool.eq_iff_iff]; simp [insOk]; omega

theorem l1InsOk_any (op : Int) (s : ByteArray) (n : Int) (w : World) (hs : s.size ≤ maxLen) :
    Calls Tryz.prog 115 #[.agg #[.int .i64 op, .string s, .int .i64 n]] w fun e w' => e = .returned (.bool (insOk op s.size n)) ∧ Below w.heap.size w w' := by
  by_cases h : s.size = 0
  · have e := empty_of_size h
    subst e
    exact l1InsOk_em op n w
  · exact l1InsOk_ne op s n w hs (toList_ne h) (by omega)

end Go.Proofs.YtkgddbcjmejfaaaGreatDoor.Vp

/-
  The two ValidProgram: one answer.
-/
namespace Go.Proofs.YtkgddbcjmejfaaaGreatDoor.Vp
open Go.RowKit

/-- The first k instructions are right. -/
def okTo (f : Nat → Ins) : Nat → Bool
  | 0 => true
  | k + 1 => okTo f k && insOk (f k).op (f k).s.size (f k).n
theorem okTo_mono {f : Nat → Ins} {k n : Nat} (h : k ≤ n) (hn : okTo f n = true) : okTo f k = true := by
  induction n with
  | zero => obtain rfl : k = 0 := by omega
            exact hn
  | succ m ih =>
    by_cases e : k = m + 1
    · subst e; exact hn
    · simp only [okTo, Bool.and_eq_true] at hn
      exact ih (by omega) hn.1
theorem okTo_false {f : Nat → Ins} {k n : Nat} (h : k < n) (hk : insOk (f k).op (f k).s.size (f k).n = false) : okTo f n = false := by
  cases e : okTo f n with
  | false => rfl
  | true =>
    have h2 := okTo_mono (show k + 1 ≤ n by omega) e
    simp [okTo, hk] at h2
def valid (f : Nat → Ins) (n : Nat) : Bool := okTo f n && decide (1 ≤ (n : Int) ∧ (n : Int) ≤ 200)

theorem valid_parts {f : Nat → Ins} {n : Nat} (h : valid f n = true) : okTo f n = true ∧ 1 ≤ (n : Int) ∧ (n : Int) ≤ 200 := by
  unfold valid at h
  rw [Bool.and_eq_true, decide_eq_true_eq] at h
  exact h
theorem ok_at {f : Nat → Ins} {k n : Nat} (h : okTo f n = true) (hk : k < n) : insOk (f k).op (f k).s.size (f k).n = true := by
  have := okTo_mono (show k + 1 ≤ n by omega) h
  simp only [okTo, Bool.and_eq_true] at this
  exact this.2

set_option maxHeartbeats 1000000 in
theorem specValid_row (b off n cap : Nat) (f : Nat → Ins) (w : World) (hn : n ≤ 1048576) (hb : b < w.heap.size) (hf : ∀ i, i < n → AtIns w b off i (f i)) (hs : ∀ i, i < n → (f i).s.size ≤ maxLen) :
    Calls Tryz.prog 90 #[.agg #[.slice (some ⟨b, off, none⟩) n cap]] w fun e w' => e = .returned (.bool (valid f n)) ∧ Below w.heap.size w w' := by
  have HF := hide hf
  have HS := hide hs
  clear hf hs
  go_enter Tryz.func90, Tryz.ntmps90
  go_wp2
  go_loopw [3] (fun i wr => ∃ k : Nat, k ≤ n ∧ i = .int .i64 k ∧ okTo f k = true ∧ Below (w.heap.size + 1) (w.alloc (.cells #[.slice (some ⟨b, off, none⟩) n cap] 48)) wr) (fun i _ => n - (intOf i).toNat)
  case atStart => exact ⟨0, by omega, rfl, rfl, Below.refl _ _⟩
  case round =>
    obtain ⟨k, hk, rfl, hok, hB⟩ := hrel
    have HB := hide hB
    have HK := hide hok
    have hc0 : wr.cell? ⟨w.heap.size, 0, none⟩ = some (.slice (some ⟨b, off, none⟩) n cap) := by
      rw [hB.cell (p := ⟨w.heap.size, 0, none⟩) (by simp)]; simp
    have HW : Hid (Below w.heap.size w wr) := ((Below.refl _ _).alloc (Nat.le_refl _) _).trans (hB.mono (by omega))
    have hsz : w.heap.size + 1 ≤ wr.heap.size := by have := hB.size; simpa using this
    clear hB hok
    by_cases hlt : k < n
    · obtain ⟨c0, c1, c2⟩ := (HF.out k hlt).below HW.out hb
      go_wp2_with fail
      refine (l1InsOk_any _ _ _ _ (HS.out k hlt)).mono ?_
      rintro e w' ⟨rfl, hB'⟩
      have HB' := hide hB'
      clear hB' c0 c1 c2 hc0
      cases hi : insOk (f k).op (f k).s.size (f k).n with
      | false =>
        have HI := hide hi
        clear hi
        go_wp2
        go_ret
        refine ⟨ret_bool ?_, HW.out.trans (HB'.out.mono HW.out.size)⟩
        simp [valid, okTo_false hlt HI.out]
      | true =>
        have HI := hide hi
        clear hi
        go_wp2
        exact ⟨⟨k + 1, by omega, by go_num, by simp [okTo, HK.out, HI.out], HB.out.trans (HB'.out.mono hsz)⟩, by simp [intOf]; omega⟩
    · have e : k = n := by omega
      subst e
      by_cases h1 : 1 ≤ (k : Int)
      all_goals
        go_wp2
        go_ret
        refine ⟨ret_bool ?_, HW.out⟩
        rw [Bool.eq_iff_iff]
        simp [valid, HK.out]
        try omega

end Go.Proofs.YtkgddbcjmejfaaaGreatDoor.Vp

/-
  Names: isName, l1NameOk.
-/
namespace Go.Proofs.YtkgddbcjmejfaaaGreatDoor.Vp
open Go.RowKit

/-- The first k bytes may stand in a name. -/
def nameTo (s : ByteArray) : Nat → Bool
  | 0 => true
  | k + 1 => nameTo s k && (match s.data[k]? with | some c => decide (33 ≤ c.toNat ∧ c.toNat ≤ 126) | none => false)
def nameOk (s : ByteArray) : Bool := decide (1 ≤ s.size ∧ s.size ≤ 60) && nameTo s s.size
theorem nameTo_mono {s : ByteArray} {k n : Nat} (h : k ≤ n) (hn : nameTo s n = true) : nameTo s k = true := by
  induction n with
  | zero => obtain rfl : k = 0 := by omega
            exact hn
  | succ m ih =>
    by_cases e : k = m + 1
    · subst e; exact hn
    · simp only [nameTo, Bool.and_eq_true] at hn
      exact ih (by omega) hn.1
theorem nameTo_succ {s : ByteArray} {k : Nat} (h : k < s.size) : nameTo s (k + 1) = (nameTo s k && decide (33 ≤ s[k].toNat ∧ s[k].toNat ≤ 126)) := by
  have e : s.data[k]? = some s[k] := by rw [Array.getElem?_eq_getElem h]; rfl
  rw [nameTo, e]
theorem nameTo_false {s : ByteArray} {k : Nat} (h : k < s.size) (hk : ¬ (33 ≤ s[k].toNat ∧ s[k].toNat ≤ 126)) : nameTo s s.size = false := by
  cases e : nameTo s s.size with
  | false => rfl
  | true =>
    have h2 := nameTo_mono (show k + 1 ≤ s.size by omega) e
    rw [nameTo_succ h] at h2
    simp at h2
    omega

theorem byte_ok {c : UInt8} : (33 ≤ c.toNat ∧ c.toNat ≤ 126) ↔ (33 ≤ (c.toNat : Int) ∧ (c.toNat : Int) ≤ 126) := by omega

set_option maxHeartbeats 1000000 in
theorem isName_any (s : ByteArray) (w : World) : Calls Tryz.prog 91 #[.string s] w fun e w' => e = .returned (.bool (nameOk s)) ∧ Below w.heap.size w w' := by
  by_cases h1 : 1 ≤ (s.size : Int)
  · by_cases h2 : (s.size : Int) ≤ 60
    · have HV : Hid (nameOk s = nameTo s s.size) := by
        show nameOk s = nameTo s s.size
        unfold nameOk
        rw [show decide (1 ≤ s.size ∧ s.size ≤ 60) = true by simp; omega, Bool.true_and]
      go_enter Tryz.func91, Tryz.ntmps91
      go_wp2
      go_loopw [14] (fun i wr => ∃ k : Nat, k ≤ s.size ∧ i = .int .i64 k ∧ nameTo s k = true ∧ Below w.heap.size w wr) (fun i _ => s.size - (intOf i).toNat)
      case atStart => exact ⟨0, by omega, rfl, rfl, Below.refl _ _⟩
      case round =>
        obtain ⟨k, hk, rfl, hok, hB⟩ := hrel
        have HB := hide hB
        have HK := hide hok
        clear hB hok
        by_cases hlt : k < s.size
        · by_cases p1 : 33 ≤ (s[k].toNat : Int)
          · by_cases p2 : (s[k].toNat : Int) ≤ 126
            · go_wp2
              exact ⟨⟨k + 1, by omega, by go_num, by rw [nameTo_succ hlt, HK.out]; simp; omega, HB.out⟩, by simp [intOf]; omega⟩
            · go_wp2
              go_ret
              exact ⟨ret_bool (by rw [HV.out, nameTo_false hlt (by omega)]), HB.out⟩
          · go_wp2
            go_ret
            exact ⟨ret_bool (by rw [HV.out, nameTo_false hlt (by omega)]), HB.out⟩
        · have e : k = s.size := by omega
          subst e
          go_wp2
          go_ret
          exact ⟨ret_bool (by rw [HV.out, HK.out]), HB.out⟩
    · have e : nameOk s = false := by
        unfold nameOk
        rw [show decide (1 ≤ s.size ∧ s.size ≤ 60) = false by simp; omega, Bool.false_and]
      rw [e]
      clear e
      go_enter Tryz.func91, Tryz.ntmps91
      go_wp2
      go_ret
      exact ⟨rfl, Below.refl _ _⟩
  · have e : nameOk s = false := by
      unfold nameOk
      rw [show decide (1 ≤ s.size ∧ s.size ≤ 60) = false by simp; omega, Bool.false_and]
    rw [e]
    clear e
    go_enter Tryz.func91, Tryz.ntmps91
    go_wp2
    go_ret
    exact ⟨rfl, Below.refl _ _⟩

set_option maxHeartbeats 1000000 in
theorem l1NameOk_any (s : ByteArray) (w : World) : Calls Tryz.prog 73 #[.string s] w fun e w' => e = .returned (.bool (nameOk s)) ∧ Below w.heap.size w w' := by
  by_cases h1 : 1 ≤ (s.size : Int)
  · by_cases h2 : (s.size : Int) ≤ 60
    · have HV : Hid (nameOk s = nameTo s s.size) := by
        show nameOk s = nameTo s s.size
        unfold nameOk
        rw [show decide (1 ≤ s.size ∧ s.size ≤ 60) = true by simp; omega, Bool.true_and]
      go_enter Tryz.func73, Tryz.ntmps73
      go_wp2
      go_loopw [3] (fun i wr => ∃ k : Nat, k ≤ s.size ∧ i = .int .i64 k ∧ nameTo s k = true ∧ Below w.heap.size w wr) (fun i _ => s.size - (intOf i).toNat)
      case atStart => exact ⟨0, by omega, rfl, rfl, Below.refl _ _⟩
      case round =>
        obtain ⟨k, hk, rfl, hok, hB⟩ := hrel
        have HB := hide hB
        have HK := hide hok
        clear hB hok
        by_cases hlt : k < s.size
        · by_cases p1 : 33 ≤ (s[k].toNat : Int)
          · by_cases p2 : (s[k].toNat : Int) ≤ 126
            · go_wp2
              exact ⟨⟨k + 1, by omega, by go_num, by rw [nameTo_succ hlt, HK.out]; simp; omega, HB.out⟩, by simp [intOf]; omega⟩
            · go_wp2
              go_ret
              exact ⟨ret_bool (by rw [HV.out, nameTo_false hlt (by omega)]), HB.out⟩
          · go_wp2
            go_ret
            exact ⟨ret_bool (by rw [HV.out, nameTo_false hlt (by omega)]), HB.out⟩
        · have e : k = s.size := by omega
          subst e
          go_wp2
          go_ret
          exact ⟨ret_bool (by rw [HV.out, HK.out]), HB.out⟩
    · have e : nameOk s = false := by
        unfold nameOk
        rw [show decide (1 ≤ s.size ∧ s.size ≤ 60) = false by simp; omega, Bool.false_and]
      rw [e]
      clear e
      go_enter Tryz.func73, Tryz.ntmps73
      go_wp2
      go_ret
      exact ⟨rfl, Below.refl _ _⟩
  · have e : nameOk s = false := by
      unfold nameOk
      rw [show decide (1 ≤ s.size ∧ s.size ≤ 60) = false by simp; omega, Bool.false_and]
    rw [e]
    clear e
    go_enter Tryz.func73, Tryz.ntmps73
    go_wp2
    go_ret
    exact ⟨rfl, Below.refl _ _⟩

end Go.Proofs.YtkgddbcjmejfaaaGreatDoor.Vp

/-
  CheckAccount: what it answers.
-/
namespace Go.Proofs.YtkgddbcjmejfaaaGreatDoor.Vp
open Go.RowKit

def linkOk (f : Nat → Deed) (p : Nat) (l : Link) : Bool :=
  nameOk l.name && (if l.ask = true then !l.has && decide (0 ≤ l.at_) && decide (l.at_ < (p : Int)) && ((f l.at_.toNat).name.toList == l.name.toList) else decide (l.at_ = 0))
def linksOk (f : Nat → Deed) (p : Nat) (x : Deed) : Nat → Bool
  | 0 => true
  | k + 1 => linksOk f p x k && linkOk f p (x.links k)
def unmadeOk (x : Deed) : Bool := decide (x.code = 0) && decide (x.actN = 0) && decide (x.linksN = 0)
def targetOk (f : Nat → Deed) (p : Nat) (x : Deed) : Bool := decide (0 ≤ x.code) && decide (x.code ≤ 5) && valid x.act x.actN && decide (x.linksN ≤ 200) && linksOk f p x x.linksN
def kindOk (f : Nat → Deed) (p : Nat) (x : Deed) : Bool :=
  if x.kind = 1 then unmadeOk x else if x.kind = 2 then unmadeOk x && decide (x.text.size = 0) else if x.kind = 3 then targetOk f p x else false
def deedOk (f : Nat → Deed) (p : Nat) : Bool := nameOk (f p).name && decide ((f p).text.size ≤ 2000) && kindOk f p (f p)
def nameNew (f : Nat → Deed) (p : Nat) : Nat → Bool
  | 0 => true
  | k + 1 => nameNew f p k && !((f k).name.toList == (f p).name.toList)

/-- The first place below n that is not so, or -1. -/
def firstNo (g : Nat → Bool) : Nat → Int
  | 0 => -1
  | k + 1 => if firstNo g k = -1 then (if g k = true then -1 else k) else firstNo g k
theorem firstNo_all {g : Nat → Bool} {n : Nat} (h : ∀ i, i < n → g i = true) : firstNo g n = -1 := by
  induction n with
  | zero => rfl
  | succ k ih =>
    rw [firstNo, if_pos (ih fun i hi => h i (by omega)), if_pos (h k (by omega))]
theorem firstNo_at {g : Nat → Bool} {n i : Nat} (hi : i < n) (hg : g i = false) (h : ∀ j, j < i → g j = true) : firstNo g n = i := by
  induction n with
  | zero => omega
  | succ k ih =>
    rw [firstNo]
    by_cases e : i = k
    · subst e
      rw [if_pos (firstNo_all h), if_neg (by rw [hg]; simp)]
    · have := ih (by omega)
      rw [this, if_neg (by omega)]
theorem firstNo_ok {g : Nat → Bool} {n : Nat} (h : firstNo g n = -1) : ∀ i, i < n → g i = true := by
  induction n with
  | zero => intro i hi; omega
  | succ k ih =>
    rw [firstNo] at h
    split at h
    · rename_i h1
      intro i hi
      by_cases e : i = k
      · subst e
        cases hg : g i with
        | true => rfl
        | false => rw [hg] at h; simp at h
      · exact ih h1 i (by omega)
    · rename_i h1
      exact absurd h h1
theorem linksOk_at {f : Nat → Deed} {p : Nat} {x : Deed} {n : Nat} (h : linksOk f p x n = true) : ∀ i, i < n → linkOk f p (x.links i) = true := by
  induction n with
  | zero => intro i hi; omega
  | succ k ih =>
    simp only [linksOk, Bool.and_eq_true] at h
    intro i hi
    by_cases e : i = k
    · subst e; exact h.2
    · exact ih h.1 i (by omega)

/-- What the links of a deed list, one after the other. -/
def lks (go : Nat → Nat → (Nat → Bool) → (Nat → Bool) × List (Nat × Nat)) (x : Deed) (d : Nat) (s : Nat → Bool) : Nat → (Nat → Bool) × List (Nat × Nat)
  | 0 => (s, [])
  | j + 1 => if (x.links j).ask = true ∧ (lks go x d s j).1 (x.links j).at_.toNat = false then ((go (x.links j).at_.toNat (d + 1) (lks go x d s j).1).1, (lks go x d s j).2 ++ (go (x.links j).at_.toNat (d + 1) (lks go x d s j).1).2) else lks go x d s j
def put (s : Nat → Bool) (p : Nat) : Nat → Bool := fun q => q == p || s q
/-- A deed listed: the places that are listed then, and what was listed, each with the number of deeds around it. -/
def lst (f : Nat → Deed) : Nat → Nat → Nat → (Nat → Bool) → (Nat → Bool) × List (Nat × Nat)
  | 0, _, _, s => (s, [])
  | k + 1, p, d, s => (put (lks (lst f k) (f p) d s (f p).linksN).1 p, (lks (lst f k) (f p) d s (f p).linksN).2 ++ [(p, d)])
/-- The asks of a deed stand ahead of it. -/
def Ahead (f : Nat → Deed) (n : Nat) : Prop := ∀ p, p < n → ∀ i, i < (f p).linksN → ((f p).links i).ask = true → ((f p).links i).at_.toNat < p ∧ 0 ≤ ((f p).links i).at_
def cnt (s : Nat → Bool) : Nat → Nat
  | 0 => 0
  | k + 1 => cnt s k + (if s k = true then 1 else 0)
theorem cnt_le (s : Nat → Bool) (n : Nat) : cnt s n ≤ n := by
  induction n with
  | zero => simp [cnt]
  | succ k ih => rw [cnt]; split <;> omega
theorem cnt_congr {s s' : Nat → Bool} {n : Nat} (h : ∀ q, q < n → s q = s' q) : cnt s n = cnt s' n := by
  induction n with
  | zero => rfl
  | succ k ih => rw [cnt, cnt, ih fun q hq => h q (by omega), h k (by omega)]
theorem cnt_put {s : Nat → Bool} {p n : Nat} (hp : p < n) (h : s p = false) : cnt (put s p) n = cnt s n + 1 := by
  induction n with
  | zero => omega
  | succ k ih =>
    rw [cnt, cnt]
    by_cases e : p = k
    · subst e
      have h1 : cnt (put s p) p = cnt s p := cnt_congr fun q hq => by simp [put]; omega
      simp [h1, put, h]
    · have h1 : put s p k = s k := by simp [put]; omega
      rw [ih (by omega), h1]
      omega
/-- What a listing of p makes of the places: p is listed, none behind it is touched, each is listed once. -/
structure Lsd (n p d : Nat) (s : Nat → Bool) (r : (Nat → Bool) × List (Nat × Nat)) : Prop where
  far : ∀ q, p < q → r.1 q = s q
  old : ∀ q, s q = true → r.1 q = true
  num : cnt r.1 n = cnt s n + r.2.length
  last : ∃ o, r.2 = o ++ [(p, d)]
  le : ∀ x ∈ r.2, x.1 ≤ p
theorem lks_inv {f : Nat → Deed} {n k p d : Nat} {s : Nat → Bool} (hA : Ahead f n) (hp : p < n) (go : ∀ q d s, q < p → s q = false → Lsd n q d s (lst f k q d s)) :
    ∀ j, j ≤ (f p).linksN → (∀ q, p ≤ q → (lks (lst f k) (f p) d s j).1 q = s q) ∧ (∀ q, s q = true → (lks (lst f k) (f p) d s j).1 q = true) ∧ cnt (lks (lst f k) (f p) d s j).1 n = cnt s n + (lks (lst f k) (f p) d s j).2.length ∧ ∀ x ∈ (lks (lst f k) (f p) d s j).2, x.1 < p
  | 0, _ => ⟨fun _ _ => rfl, fun _ h => h, by simp [lks], by simp [lks]⟩
  | j + 1, hj => by
    obtain ⟨h1, h2, h3, h4⟩ := lks_inv (d := d) (s := s) hA hp go j (by omega)
    rw [lks]
    split
    · rename_i hc
      have ha := (hA p hp j (by omega) hc.1).1
      have g := go _ (d + 1) _ ha hc.2
      refine ⟨fun q hq => (g.far q (by omega)).trans (h1 q hq), fun q hq => g.old q (h2 q hq), ?_, fun x hx => ?_⟩
      · show cnt (lst f k _ (d + 1) _).1 n = _
        rw [g.num, h3, List.length_append]
        omega
      · rcases List.mem_append.1 hx with hx | hx
        · exact h4 x hx
        · have := g.le x hx
          omega
    · exact ⟨h1, h2, h3, h4⟩
theorem lst_inv {f : Nat → Deed} {n : Nat} (hA : Ahead f n) : ∀ k p d s, p < k → p < n → s p = false → Lsd n p d s (lst f k p d s)
  | 0, _, _, _, h, _, _ => absurd h (Nat.not_lt_zero _)
  | k + 1, p, d, s, hk, hn, hs => by
    obtain ⟨h1, h2, h3, h4⟩ := lks_inv (d := d) (s := s) hA hn (fun q d s hq hs => lst_inv hA k q d s (by omega) (by omega) hs) (f p).linksN (Nat.le_refl _)
    have hp := (h1 p (Nat.le_refl _)).trans hs
    refine ⟨fun q hq => ?_, fun q hq => ?_, ?_, ⟨_, rfl⟩, fun x hx => ?_⟩
    · show put _ p q = s q
      rw [put, h1 q (by omega)]
      simp; omega
    · show put _ p q = true
      rw [put, h2 q hq]
      simp
    · show cnt (put _ p) n = _
      rw [cnt_put hn hp, h3]
      simp [lst, List.length_append]
      omega
    · rcases List.mem_append.1 hx with hx | hx
      · exact Nat.le_of_lt (h4 x hx)
      · simp at hx
        subst hx
        exact Nat.le_refl _
/-- It hangs on no place behind. -/
theorem lst_put {f : Nat → Deed} {n : Nat} (hA : Ahead f n) : ∀ k p d s q, p < n → p < q → lst f k p d (put s q) = (put (lst f k p d s).1 q, (lst f k p d s).2)
  | 0, _, _, _, _, _, _ => rfl
  | k + 1, p, d, s, q, hn, hq => by
    have key : ∀ j, j ≤ (f p).linksN → lks (lst f k) (f p) d (put s q) j = (put (lks (lst f k) (f p) d s j).1 q, (lks (lst f k) (f p) d s j).2) := by
      intro j
      induction j with
      | zero => intro _; rfl
      | succ j ih =>
        intro hj
        have e := ih (by omega)
        rw [lks, lks, e]
        by_cases hk : ((f p).links j).ask = true
        · have ha := (hA p hn j (by omega) hk).1
          have e2 : put (lks (lst f k) (f p) d s j).1 q ((f p).links j).at_.toNat = (lks (lst f k) (f p) d s j).1 ((f p).links j).at_.toNat := by simp [put]; omega
          simp only [e2, hk, true_and]
          split
          · rw [lst_put hA k _ (d + 1) _ q (by omega) (by omega)]
          · rfl
        · rw [if_neg (fun h => hk h.1), if_neg (fun h => hk h.1)]
    have e := key (f p).linksN (Nat.le_refl _)
    rw [lst, lst, e]
    simp only [Prod.mk.injEq, and_true]
    funext x
    simp only [put]
    cases h1 : x == p <;> cases h2 : x == q <;> simp
def offAt : Nat → List (Nat × Nat) → Int
  | _, [] => -1
  | i, x :: xs => if x.1 = i then offAt (i + 1) xs else i
def deepAt (f : Nat → Deed) : List (Nat × Nat) → Int
  | [] => -1
  | x :: xs => if (f x.1).kind = 3 ∧ 60 ≤ x.2 then x.1 else deepAt f xs
def listing (f : Nat → Deed) (n : Nat) : List (Nat × Nat) := (lst f n (n - 1) 0 (fun _ => false)).2
/-- The code and the place. -/
def accC (f : Nat → Deed) (n : Nat) : Int × Int :=
  if n = 0 ∨ 400 < n then (1, 0) else
  if firstNo (deedOk f) n ≠ -1 then (2, firstNo (deedOk f) n) else
  if firstNo (fun p => nameNew f p p) n ≠ -1 then (3, firstNo (fun p => nameNew f p p) n) else
  if offAt 0 (listing f n) ≠ -1 then (4, offAt 0 (listing f n)) else
  if deepAt f (listing f n) ≠ -1 then (5, deepAt f (listing f n)) else (0, 0)
theorem ahead_of {f : Nat → Deed} {n : Nat} (h : firstNo (deedOk f) n = -1) : Ahead f n := by
  intro p hp i hi ha
  have h1 := firstNo_ok h p hp
  simp only [deedOk, Bool.and_eq_true, kindOk] at h1
  obtain ⟨_, h2⟩ := h1
  split at h2
  · simp [unmadeOk] at h2
    omega
  · split at h2
    · simp [unmadeOk] at h2
      omega
    · split at h2
      · simp only [targetOk, Bool.and_eq_true] at h2
        have h3 := linksOk_at h2.2 i hi
        simp only [linkOk, ha, if_true, Bool.and_eq_true, decide_eq_true_eq] at h3
        omega
      · cases h2

end Go.Proofs.YtkgddbcjmejfaaaGreatDoor.Vp

/-
  Instructions compared as a whole.
-/
namespace Go.Proofs.YtkgddbcjmejfaaaGreatDoor.Vp
open Go.RowKit

def insB (x y : Ins) : Bool := x.op == y.op && x.s.toList == y.s.toList && x.n == y.n
/-- the first k instructions are the same. -/
def insTo (f g : Nat → Ins) : Nat → Bool
  | 0 => true
  | k + 1 => insTo f g k && insB (f k) (g k)
def codeB (f g : Nat → Ins) (n m : Nat) : Bool := decide (n = m) && insTo f g n
theorem insTo_mono {f g : Nat → Ins} {k n : Nat} (h : k ≤ n) (hn : insTo f g n = true) : insTo f g k = true := by
  induction n with
  | zero => obtain rfl : k = 0 := by omega
            exact hn
  | succ m ih =>
    by_cases e : k = m + 1
    · subst e; exact hn
    · simp only [insTo, Bool.and_eq_true] at hn
      exact ih (by omega) hn.1
theorem insTo_false {f g : Nat → Ins} {k n : Nat} (h : k < n) (hk : insB (f k) (g k) = false) : insTo f g n = false := by
  cases e : insTo f g n with
  | false => rfl
  | true =>
    have h2 := insTo_mono (show k + 1 ≤ n by omega) e
    simp [insTo, hk] at h2

theorem toList_eqv {a b : ByteArray} (h : (a.toList == b.toList) = true) : a = b := by
  have h1 : a.toList = b.toList := by simpa using h
  rw [ByteArray.toList_eq, ByteArray.toList_eq] at h1
  exact ByteArray.ext (Array.ext' h1)

end Go.Proofs.YtkgddbcjmejfaaaGreatDoor.Vp

/-
  validIns: the table's rows.
-/
namespace Go.Proofs.YtkgddbcjmejfaaaGreatDoor.Vp
open Go.RowKit

set_option maxHeartbeats 400000 in
theorem validIns_a (k : Nat) (s : ByteArray) (n mt mn : Int) (w : World) (h1 : 1 ≤ (k : Int)) (h2 : (k : Int) ≤ 15)
    (hT : w.cell? ⟨1, k * 5 + 1, none⟩ = some (.int .i64 mt)) (hN : w.cell? ⟨1, k * 5 + 2, none⟩ = some (.int .i64 mn)) (hz : 1 < w.heap.size)
    (ht : (s.size : Int) ≤ mt) (hn : 0 ≤ n) :
    Calls Tryz.prog 116 #[.agg #[.int .i64 k, .string s, .int .i64 n]] w fun e w' => e = .returned (.bool (decide (n ≤ mn))) ∧ Below w.heap.size w w' := by
  go_enter Tryz.func116, Tryz.ntmps116
  go_wp2
  go_quiet (fail)
  go_wp2
  go_ret
  exact ⟨rfl, below_drewN ((Below.refl _ _).alloc (Nat.le_refl _) _) _⟩

set_option maxHeartbeats 400000 in
theorem validIns_b (k : Nat) (s : ByteArray) (n mt : Int) (w : World) (h1 : 1 ≤ (k : Int)) (h2 : (k : Int) ≤ 15)
    (hT : w.cell? ⟨1, k * 5 + 1, none⟩ = some (.int .i64 mt)) (hz : 1 < w.heap.size)
    (ht : (s.size : Int) ≤ mt) (hn : n < 0) :
    Calls Tryz.prog 116 #[.agg #[.int .i64 k, .string s, .int .i64 n]] w fun e w' => e = .returned (.bool false) ∧ Below w.heap.size w w' := by
  have hd : decide (0 ≤ n) = false := by simp; omega
  go_enter Tryz.func116, Tryz.ntmps116
  go_wp2
  go_quiet (fail)
  go_wp2
  go_ret
  exact ⟨rfl, below_drewN ((Below.refl _ _).alloc (Nat.le_refl _) _) _⟩

set_option maxHeartbeats 400000 in
theorem validIns_c (k : Nat) (s : ByteArray) (n mt : Int) (w : World) (h1 : 1 ≤ (k : Int)) (h2 : (k : Int) ≤ 15)
    (hT : w.cell? ⟨1, k * 5 + 1, none⟩ = some (.int .i64 mt)) (hz : 1 < w.heap.size)
    (ht : mt < (s.size : Int)) :
    Calls Tryz.prog 116 #[.agg #[.int .i64 k, .string s, .int .i64 n]] w fun e w' => e = .returned (.bool false) ∧ Below w.heap.size w w' := by
  have hd : decide ((s.size : Int) ≤ mt) = false := by simp; omega
  go_enter Tryz.func116, Tryz.ntmps116
  go_wp2
  go_quiet (fail)
  go_wp2
  go_ret
  exact ⟨rfl, below_drewN ((Below.refl _ _).alloc (Nat.le_refl _) _) _⟩

set_option maxHeartbeats 400000 in
theorem validIns_d (op : Int) (s : ByteArray) (n : Int) (w : World) (h : op < 1 ∨ 15 < op) :
    Calls Tryz.prog 116 #[.agg #[.int .i64 op, .string s, .int .i64 n]] w fun e w' => e = .returned (.bool false) ∧ Below w.heap.size w w' := by
  rcases h with h | h
  all_goals
    go_enter Tryz.func116, Tryz.ntmps116
    go_wp2
    go_ret
    exact ⟨rfl, (Below.refl _ _).alloc (Nat.le_refl _) _⟩

/-- The table, as far as it is read: the bounds of each operation's operands. -/
def Tab (w : World) : Prop := 1 < w.heap.size ∧ ∀ k : Nat, k < 16 → w.cell? ⟨1, k * 5 + 1, none⟩ = some (.int .i64 (mostText k)) ∧ w.cell? ⟨1, k * 5 + 2, none⟩ = some (.int .i64 (mostN k))

theorem validIns_any (op : Int) (s : ByteArray) (n : Int) (w : World) (hT : Tab w) :
    Calls Tryz.prog 116 #[.agg #[.int .i64 op, .string s, .int .i64 n]] w fun e w' => e = .returned (.bool (insOk op s.size n)) ∧ Below w.heap.size w w' := by
  by_cases h : 1 ≤ op ∧ op ≤ 15
  · obtain ⟨k, rfl⟩ := Int.eq_ofNat_of_zero_le (show 0 ≤ op by omega)
    obtain ⟨h1, h2⟩ := h
    obtain ⟨t1, t2⟩ := hT.2 k (by omega)
    by_cases ht : (s.size : Int) ≤ mostText k
    · by_cases hn : 0 ≤ n
      · have e : insOk (k : Int) s.size n = decide (n ≤ mostN k) := by
          unfold insOk
          rw [Bool.eq_iff_iff, decide_eq_true_eq, decide_eq_true_eq]
          exact ⟨fun h => h.2.2.2.2, fun h => ⟨h1, h2, ht, hn, h⟩⟩
        rw [e]
        exact validIns_a k s n _ _ w h1 h2 t1 t2 hT.1 ht hn
      · have e : insOk (k : Int) s.size n = false := by
          unfold insOk
          rw [decide_eq_false_iff_not]
          exact fun h => hn h.2.2.2.1
        rw [e]
        exact validIns_b k s n _ w h1 h2 t1 hT.1 ht (by omega)
    · have e : insOk (k : Int) s.size n = false := by
        unfold insOk
        rw [decide_eq_false_iff_not]
        exact fun h => ht h.2.2.1
      rw [e]
      exact validIns_c k s n _ w h1 h2 t1 hT.1 (by omega)
  · have e : insOk op s.size n = false := by
      unfold insOk
      rw [decide_eq_false_iff_not]
      exact fun g => h ⟨g.1, g.2.1⟩
    rw [e]
    exact validIns_d op s n w (by omega)

end Go.Proofs.YtkgddbcjmejfaaaGreatDoor.Vp

/-
  impl.ValidProgram; eqInsS, eqProgram over two rows of the same instructions.
-/
namespace Go.Proofs.YtkgddbcjmejfaaaGreatDoor.Vp
open Go.RowKit

theorem Tab.below {w w' : World} {B : Nat} (h : Tab w) (hb : Below B w w') (hB : 1 < B) : Tab w' :=
  ⟨Nat.lt_of_lt_of_le h.1 hb.size, fun k hk => ⟨(hb.cell (p := ⟨1, _, none⟩) hB).trans (h.2 k hk).1, (hb.cell (p := ⟨1, _, none⟩) hB).trans (h.2 k hk).2⟩⟩

set_option maxHeartbeats 1000000 in
theorem implValid_no (a : Option Addr) (n cap : Nat) (f : Nat → Ins) (w : World) (hn : n ≤ 1048576) (h : (n : Int) < 1 ∨ 200 < (n : Int)) :
    Calls Tryz.prog 93 #[.agg #[.slice a n cap]] w fun e w' => e = .returned (.bool (valid f n)) ∧ Below w.heap.size w w' := by
  have e : valid f n = false := by
    unfold valid
    rw [show decide (1 ≤ (n : Int) ∧ (n : Int) ≤ 200) = false by simp; omega, Bool.and_false]
  rw [e]
  clear e
  rcases h with h | h
  all_goals
    go_enter Tryz.func93, Tryz.ntmps93
    go_wp2
    go_ret
    exact ⟨rfl, (Below.refl _ _).alloc (Nat.le_refl _) _⟩

set_option maxHeartbeats 1000000 in
theorem implValid_row (b off n cap : Nat) (f : Nat → Ins) (w : World) (h1 : 1 ≤ (n : Int)) (h2 : (n : Int) ≤ 200) (hb : b < w.heap.size) (hf : ∀ i, i < n → AtIns w b off i (f i)) (hT : Tab w) :
    Calls Tryz.prog 93 #[.agg #[.slice (some ⟨b, off, none⟩) n cap]] w fun e w' => e = .returned (.bool (valid f n)) ∧ Below w.heap.size w w' := by
  have HF := hide hf
  have HT := hide hT
  have hT0 := hT.1
  have HV : Hid (valid f n = okTo f n) := by
    show valid f n = okTo f n
    unfold valid
    rw [show decide (1 ≤ (n : Int) ∧ (n : Int) ≤ 200) = true by simp; omega, Bool.and_true]
  clear hf hT
  go_enter Tryz.func93, Tryz.ntmps93
  go_wp2
  go_loopw [18] (fun i wr => ∃ k : Nat, k ≤ n ∧ i = .int .i64 k ∧ okTo f k = true ∧ Below w.heap.size w wr) (fun i _ => n - (intOf i).toNat)
  case atStart => exact ⟨0, by omega, rfl, rfl, (Below.refl _ _).alloc (Nat.le_refl _) _⟩
  case round =>
    obtain ⟨k, hk, rfl, hok, hB⟩ := hrel
    have HB := hide hB
    have HK := hide hok
    have hsz : w.heap.size ≤ wr.heap.size := hB.size
    clear hB hok
    by_cases hlt : k < n
    · obtain ⟨c0, c1, c2⟩ := (HF.out k hlt).below HB.out hb
      go_wp2_with fail
      refine (validIns_any _ _ _ _ (HT.out.below (HB.out.alloc hsz _) hT0)).mono ?_
      rintro e w' ⟨rfl, hB'⟩
      have HB' : Hid (Below w.heap.size w w') := (HB.out.alloc hsz _).trans (hB'.mono (by simp; omega))
      clear hB' c0 c1 c2
      cases hi : insOk (f k).op (f k).s.size (f k).n with
      | false =>
        have HI := hide hi
        clear hi
        go_wp2
        go_ret
        refine ⟨ret_bool ?_, HB'.out⟩
        rw [HV.out, okTo_false hlt HI.out]
      | true =>
        have HI := hide hi
        clear hi
        go_wp2
        exact ⟨⟨k + 1, by omega, by go_num, by simp [okTo, HK.out, HI.out], HB'.out⟩, by simp [intOf]; omega⟩
    · have e : k = n := by omega
      subst e
      go_wp2
      go_ret
      exact ⟨ret_bool (by rw [HV.out, HK.out]), HB.out⟩

theorem implValid_any (b off n cap : Nat) (f : Nat → Ins) (w : World) (hn : n ≤ 1048576) (hb : b < w.heap.size) (hf : ∀ i, i < n → AtIns w b off i (f i)) (hT : Tab w) :
    Calls Tryz.prog 93 #[.agg #[.slice (some ⟨b, off, none⟩) n cap]] w fun e w' => e = .returned (.bool (valid f n)) ∧ Below w.heap.size w w' := by
  by_cases h : (n : Int) < 1 ∨ 200 < (n : Int)
  · exact implValid_no _ n cap f w hn h
  · exact implValid_row b off n cap f w (by omega) (by omega) hb hf hT

end Go.Proofs.YtkgddbcjmejfaaaGreatDoor.Vp

/-
  ValidProgram of a program that may have no instruction.
-/
namespace Go.Proofs.YtkgddbcjmejfaaaGreatDoor.Vp
open Go.RowKit

theorem valid_zero (f : Nat → Ins) : valid f 0 = false := by simp [valid]
theorem implValid_sl (a : Option Addr) (n cap : Nat) (f : Nat → Ins) (w : World) (hn : n ≤ 1048576) (hv : SlIns w a n f) (hT : Tab w) :
    Calls Tryz.prog 93 #[.agg #[.slice a n cap]] w fun e w' => e = .returned (.bool (valid f n)) ∧ Below w.heap.size w w' := by
  rcases hv with rfl | ⟨b, off, rfl, hr⟩
  · exact implValid_no a 0 cap f w (by omega) (by simp)
  · exact implValid_any b off n cap f w hn hr.1 hr.2 hT
set_option maxHeartbeats 1000000 in
theorem specValid_nil (a : Option Addr) (cap : Nat) (f : Nat → Ins) (w : World) : Calls Tryz.prog 90 #[.agg #[.slice a 0 cap]] w fun e w' => e = .returned (.bool (valid f 0)) ∧ Below w.heap.size w w' := by
  rw [valid_zero]
  have A0 := hide ((Below.refl w.heap.size w).alloc (Nat.le_refl _) (.cells #[.slice a 0 cap] 48))
  go_enter Tryz.func90, Tryz.ntmps90
  go_wp2
  go_loop [3] (fun i => i = .int .i64 0) (fun _ => 0)
  case atStart => rfl
  case round =>
    subst hrel
    go_wp2
    go_ret
    exact ⟨rfl, A0.out⟩
theorem specValid_sl (a : Option Addr) (n cap : Nat) (f : Nat → Ins) (w : World) (hn : n ≤ 1048576) (hv : SlIns w a n f) (hs : ∀ i, i < n → (f i).s.size ≤ maxLen) :
    Calls Tryz.prog 90 #[.agg #[.slice a n cap]] w fun e w' => e = .returned (.bool (valid f n)) ∧ Below w.heap.size w w' := by
  rcases hv with rfl | ⟨b, off, rfl, hr⟩
  · exact specValid_nil a cap f w
  · exact specValid_row b off n cap f w hn hr.1 hr.2 hs

end Go.Proofs.YtkgddbcjmejfaaaGreatDoor.Vp

/-
  isName leaves the world as it is.
-/
namespace Go.Proofs.YtkgddbcjmejfaaaGreatDoor.Vp
open Go.RowKit

set_option maxHeartbeats 1000000 in
theorem isName_same (s : ByteArray) (w : World) : Calls Tryz.prog 91 #[.string s] w fun e w' => e = .returned (.bool (nameOk s)) ∧ w' = w := by
  by_cases h1 : 1 ≤ (s.size : Int)
  · by_cases h2 : (s.size : Int) ≤ 60
    · have HV : Hid (nameOk s = nameTo s s.size) := by
        show nameOk s = nameTo s s.size
        unfold nameOk
        rw [show decide (1 ≤ s.size ∧ s.size ≤ 60) = true by simp; omega, Bool.true_and]
      go_enter Tryz.func91, Tryz.ntmps91
      go_wp2
      go_loopw [14] (fun i wr => ∃ k : Nat, k ≤ s.size ∧ i = .int .i64 k ∧ nameTo s k = true ∧ wr = w) (fun i _ => s.size - (intOf i).toNat)
      case atStart => exact ⟨0, by omega, rfl, rfl, rfl⟩
      case round =>
        obtain ⟨k, hk, rfl, hok, hB⟩ := hrel
        have HB := hide hB
        have HK := hide hok
        clear hB hok
        by_cases hlt : k < s.size
        · by_cases p1 : 33 ≤ (s[k].toNat : Int)
          · by_cases p2 : (s[k].toNat : Int) ≤ 126
            · go_wp2
              exact ⟨⟨k + 1, by omega, by go_num, by rw [nameTo_succ hlt, HK.out]; simp; omega, HB.out⟩, by simp [intOf]; omega⟩
            · go_wp2
              go_ret
              exact ⟨ret_bool (by rw [HV.out, nameTo_false hlt (by omega)]), HB.out⟩
          · go_wp2
            go_ret
            exact ⟨ret_bool (by rw [HV.out, nameTo_false hlt (by omega)]), HB.out⟩
        · have e : k = s.size := by omega
          subst e
          go_wp2
          go_ret
          exact ⟨ret_bool (by rw [HV.out, HK.out]), HB.out⟩
    · have e : nameOk s = false := by
        unfold nameOk
        rw [show decide (1 ≤ s.size ∧ s.size ≤ 60) = false by simp; omega, Bool.false_and]
      rw [e]
      clear e
      go_enter Tryz.func91, Tryz.ntmps91
      go_wp2
      go_ret
      exact ⟨rfl, rfl⟩
  · have e : nameOk s = false := by
      unfold nameOk
      rw [show decide (1 ≤ s.size ∧ s.size ≤ 60) = false by simp; omega, Bool.false_and]
    rw [e]
    clear e
    go_enter Tryz.func91, Tryz.ntmps91
    go_wp2
    go_ret
    exact ⟨rfl, rfl⟩

end Go.Proofs.YtkgddbcjmejfaaaGreatDoor.Vp
