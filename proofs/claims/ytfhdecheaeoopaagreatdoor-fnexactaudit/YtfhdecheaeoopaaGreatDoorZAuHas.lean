/-
  impl: hasOtherwise.
-/
import Derived.Test.YtfhdecheaeoopaaGreatDoorZInsB
import Derived.Test.YtfhdecheaeoopaaGreatDoorZFdFind
namespace Go.Proofs.YtfhdecheaeoopaaGreatDoor.Vp
open Go.RowKit

set_option maxRecDepth 100000 in
set_option maxHeartbeats 2000000 in
theorem hasOff1_any (x : Link) (hb : Nat) (sa0 : Option Addr) (n0 sc0 : Nat) (f0 : Nat → Source) (sa1 : Option Addr) (n1 sc1 : Nat) (f1 : Nat → Target) (w : World) (hbl : hb < w.heap.size) (hc1 : w.cell? ⟨hb, 1, none⟩ = some (.slice sa0 n0 sc0)) (hc2 : w.cell? ⟨hb, 2, none⟩ = some (.slice sa1 n1 sc1)) (hn0 : (n0 : Int) ≤ 1048576) (hn1 : (n1 : Int) ≤ 1048576) (hs0 : SlSource w sa0 n0 f0) (hs1 : SlTarget w sa1 n1 f1) (ha0 : ascTo (nm0 f0) n0 = true) (ha1 : ascTo (nm1 f1) n1 = true) :
    Calls Tryz.prog 68 #[.agg #[.string x.name, .bool x.ask, .bool x.has, .int .i64 x.at_], .pointer (some ⟨hb, 0, none⟩)] w fun e w' => e = .returned (.bool (offB n0 f0 n1 f1 x)) ∧ Below w.heap.size w w' := by
  have A0 := hide ((Below.refl w.heap.size w).alloc (Nat.le_refl _) (.cells #[.string x.name, .bool x.ask, .bool x.has, .int .i64 x.at_] 70))
  obtain ⟨r, hr⟩ : ∃ r, r = offB n0 f0 n1 f1 x := ⟨_, rfl⟩
  rw [← hr]
  have HR := hide (show r = (!x.ask && !(x.has == hasN n0 f0 n1 f1 x.name)) from hr)
  have S0 := hide (hs0.below A0.out (Nat.le_refl _))
  have S1 := hide (hs1.below A0.out (Nat.le_refl _))
  have HA0 := hide ha0
  have HA1 := hide ha1
  clear hr hs0 hs1 ha0 ha1
  cases hq : x.ask with
  | true =>
    obtain rfl : r = false := by rw [HR.out, hq]; rfl
    rw [hq] at A0
    go_enter Tryz.func68, Tryz.ntmps68
    go_wp2_with fail
    go_quiet (fail)
    go_wp2
    go_ret
    exact ⟨rfl, below_drewN A0.out _⟩
  | false =>
    have HV : Hid (r = !(x.has == hasN n0 f0 n1 f1 x.name)) := by show _ = _; rw [HR.out, hq]; rfl
    rw [hq] at A0 S0 S1
    obtain ⟨c, hcc⟩ : ∃ c, c = x.has := ⟨_, rfl⟩
    rw [← hcc] at A0 S0 S1 HV ⊢
    clear hcc HR
    have HH := hide (fun W (hB : Below (w.alloc (.cells #[.string x.name, .bool false, .bool c, .int .i64 x.at_] 70)).heap.size (w.alloc (.cells #[.string x.name, .bool false, .bool c, .int .i64 x.at_] 70)) W) => has_any sa0 n0 sc0 f0 sa1 n1 sc1 f1 x.name W hn0 hn1 (S0.out.below hB (Nat.le_refl _)) (S1.out.below hB (Nat.le_refl _)) HA0.out HA1.out)
    have m0 : (w.alloc (.cells #[.string x.name, .bool false, .bool c, .int .i64 x.at_] 70)).cell? ⟨w.heap.size, 0, none⟩ = some (.string x.name) := by simp
    have m1 : (w.alloc (.cells #[.string x.name, .bool false, .bool c, .int .i64 x.at_] 70)).cell? ⟨w.heap.size, 1, none⟩ = some (.bool false) := by simp
    have m2 : (w.alloc (.cells #[.string x.name, .bool false, .bool c, .int .i64 x.at_] 70)).cell? ⟨w.heap.size, 2, none⟩ = some (.bool c) := by simp
    have e1 := (A0.out.cell (p := ⟨hb, 1, none⟩) hbl).trans hc1
    have e2 := (A0.out.cell (p := ⟨hb, 2, none⟩) hbl).trans hc2
    have hz : w.heap.size < (w.alloc (.cells #[.string x.name, .bool false, .bool c, .int .i64 x.at_] 70)).heap.size := by simp
    have hbz : hb < (w.alloc (.cells #[.string x.name, .bool false, .bool c, .int .i64 x.at_] 70)).heap.size := by omega
    have HV2 : Hid (r = !(c == (isIn (nm0 f0) n0 x.name || isIn (nm1 f1) n1 x.name))) := HV.out
    generalize (isIn (nm0 f0) n0 x.name || isIn (nm1 f1) n1 x.name) = q at HH HV2
    clear S0 S1 HV
    go_enter Tryz.func68, Tryz.ntmps68
    go_wp2_with fail
    generalize w.alloc (.cells #[.string x.name, .bool false, .bool c, .int .i64 x.at_] 70) = W at A0 HH m0 m1 m2 e1 e2 hz hbz ⊢
    have K0 := hide (And.intro m2 (And.intro e1 e2))
    go_region_with (first
      | (go_at_call 66; refine (HH.out _ ?_).mono ?_; (first | exact Below.refl _ _ | exact (Below.refl _ _).drew); rintro e w1 ⟨rfl, hB⟩; have BW : Hid (Below W.heap.size W w1) := ⟨hB.os, hB.tape, hB.output, hB.size, hB.block⟩; have y2 := (BW.out.cell (p := ⟨w.heap.size, 2, none⟩) hz).trans m2; have hz1 : w.heap.size < w1.heap.size := Nat.lt_of_lt_of_le hz BW.out.size; clear hB))
    all_goals
      go_simp
      go_wp2
      go_ret
      exact ⟨by simp [HV2.out], A0.out.trans (BW.out.mono A0.out.size)⟩

set_option maxRecDepth 100000 in
set_option maxHeartbeats 2000000 in
theorem indexLink_row (b off m c : Nat) (h : Nat → Link) (hb : Nat) (sa0 : Option Addr) (n0 sc0 : Nat) (f0 : Nat → Source) (sa1 : Option Addr) (n1 sc1 : Nat) (f1 : Nat → Target) (w : World) (hm : (m : Int) ≤ 1048576) (hrow : RowLink w b off m h) (hbl : hb < w.heap.size) (hc1 : w.cell? ⟨hb, 1, none⟩ = some (.slice sa0 n0 sc0)) (hc2 : w.cell? ⟨hb, 2, none⟩ = some (.slice sa1 n1 sc1)) (hn0 : (n0 : Int) ≤ 1048576) (hn1 : (n1 : Int) ≤ 1048576) (hs0 : SlSource w sa0 n0 f0) (hs1 : SlTarget w sa1 n1 f1) (ha0 : ascTo (nm0 f0) n0 = true) (ha1 : ascTo (nm1 f1) n1 = true) :
    Calls Tryz.prog 99 #[.slice (some ⟨b, off, none⟩) m c, .func (.func 68) #[] #[.pointer (some ⟨hb, 0, none⟩)]] w fun e w' => ∃ r : Int, e = .returned (.int .i64 r) ∧ decide (0 ≤ r) = anyTo (fun k => offB n0 f0 n1 f1 (h k)) m ∧ Below w.heap.size w w' := by
  have HW := hide hrow
  have HP := hide (fun W (hB : Below w.heap.size w W) x => hasOff1_any x hb sa0 n0 sc0 f0 sa1 n1 sc1 f1 W (Nat.lt_of_lt_of_le hbl hB.size) ((hB.cell (p := ⟨hb, 1, none⟩) hbl).trans hc1) ((hB.cell (p := ⟨hb, 2, none⟩) hbl).trans hc2) hn0 hn1 (hs0.below hB (Nat.le_refl _)) (hs1.below hB (Nat.le_refl _)) ha0 ha1)
  clear hrow hs0 hs1 ha0 ha1 hc1 hc2 hbl
  go_enter Tryz.func99, Tryz.ntmps99
  go_wp2
  go_loopw [8] (fun i wr => ∃ k : Nat, k ≤ m ∧ i = .int .i64 k ∧ Hid (anyTo (fun k => offB n0 f0 n1 f1 (h k)) k = false) ∧ Hid (Below w.heap.size w wr)) (fun i _ => m - (intOf i).toNat)
  case atStart => exact ⟨0, by omega, rfl, rfl, Below.refl _ _⟩
  case round =>
    obtain ⟨k, hk, rfl, HK, HB⟩ := hrel
    by_cases hlt : k < m
    · obtain ⟨p0, p1, p2, p3⟩ := (HW.out.below HB.out (Nat.le_refl _)).2 k hlt
      go_wp2_with fail
      go_at_call 68
      refine (HP.out _ HB.out (h k)).mono ?_
      rintro e w1 ⟨rfl, hB⟩
      have B1 := hide (HB.out.trans (hB.mono HB.out.size))
      clear hB p0 p1 p2 p3
      cases hq : offB n0 f0 n1 f1 (h k) with
      | true =>
        have HQ := hide hq
        clear hq
        go_wp2
        go_ret
        exact ⟨k, rfl, by rw [anyTo_true (p := fun k => offB n0 f0 n1 f1 (h k)) hlt HQ.out]; simp, B1.out⟩
      | false =>
        have HQ := hide hq
        clear hq
        go_wp2
        exact ⟨⟨k + 1, by omega, by go_num, by show anyTo _ (k + 1) = false; rw [anyTo, HK.out, HQ.out]; rfl, B1.out⟩, by simp [intOf]; omega⟩
    · obtain rfl : k = m := by omega
      go_wp2
      go_ret
      exact ⟨-1, rfl, by rw [HK.out]; rfl, HB.out⟩
set_option maxHeartbeats 1000000 in
theorem indexLink_nil (a : Option Addr) (c hb : Nat) (w : World) :
    Calls Tryz.prog 99 #[.slice a 0 c, .func (.func 68) #[] #[.pointer (some ⟨hb, 0, none⟩)]] w fun e w' => e = .returned (.int .i64 (-1)) ∧ w' = w := by
  go_enter Tryz.func99, Tryz.ntmps99
  go_wp2
  go_loop [8] (fun i => i = .int .i64 0) (fun _ => 0)
  case atStart => rfl
  case round =>
    subst hrel
    go_wp2
    go_ret
    exact ⟨rfl, rfl⟩
theorem indexLink_any (a : Option Addr) (m c : Nat) (h : Nat → Link) (hb : Nat) (sa0 : Option Addr) (n0 sc0 : Nat) (f0 : Nat → Source) (sa1 : Option Addr) (n1 sc1 : Nat) (f1 : Nat → Target) (w : World) (hm : (m : Int) ≤ 1048576) (hrow : SlLink w a m h) (hbl : hb < w.heap.size) (hc1 : w.cell? ⟨hb, 1, none⟩ = some (.slice sa0 n0 sc0)) (hc2 : w.cell? ⟨hb, 2, none⟩ = some (.slice sa1 n1 sc1)) (hn0 : (n0 : Int) ≤ 1048576) (hn1 : (n1 : Int) ≤ 1048576) (hs0 : SlSource w sa0 n0 f0) (hs1 : SlTarget w sa1 n1 f1) (ha0 : ascTo (nm0 f0) n0 = true) (ha1 : ascTo (nm1 f1) n1 = true) :
    Calls Tryz.prog 99 #[.slice a m c, .func (.func 68) #[] #[.pointer (some ⟨hb, 0, none⟩)]] w fun e w' => ∃ r : Int, e = .returned (.int .i64 r) ∧ decide (0 ≤ r) = anyTo (fun k => offB n0 f0 n1 f1 (h k)) m ∧ Below w.heap.size w w' := by
  rcases hrow with rfl | ⟨b, off, rfl, hrow⟩
  · exact (indexLink_nil a c hb w).mono fun e w' ⟨p, q⟩ => ⟨-1, p, rfl, by rw [q]; exact Below.refl _ _⟩
  · exact indexLink_row b off m c h hb sa0 n0 sc0 f0 sa1 n1 sc1 f1 w hm hrow hbl hc1 hc2 hn0 hn1 hs0 hs1 ha0 ha1
set_option maxHeartbeats 1000000 in
theorem containsLink_any (a : Option Addr) (m c : Nat) (h : Nat → Link) (hb : Nat) (sa0 : Option Addr) (n0 sc0 : Nat) (f0 : Nat → Source) (sa1 : Option Addr) (n1 sc1 : Nat) (f1 : Nat → Target) (w : World) (hm : (m : Int) ≤ 1048576) (hrow : SlLink w a m h) (hbl : hb < w.heap.size) (hc1 : w.cell? ⟨hb, 1, none⟩ = some (.slice sa0 n0 sc0)) (hc2 : w.cell? ⟨hb, 2, none⟩ = some (.slice sa1 n1 sc1)) (hn0 : (n0 : Int) ≤ 1048576) (hn1 : (n1 : Int) ≤ 1048576) (hs0 : SlSource w sa0 n0 f0) (hs1 : SlTarget w sa1 n1 f1) (ha0 : ascTo (nm0 f0) n0 = true) (ha1 : ascTo (nm1 f1) n1 = true) :
    Calls Tryz.prog 67 #[.slice a m c, .func (.func 68) #[] #[.pointer (some ⟨hb, 0, none⟩)]] w fun e w' => e = .returned (.bool (anyTo (fun k => offB n0 f0 n1 f1 (h k)) m)) ∧ Below w.heap.size w w' := by
  have HQ := hide (indexLink_any a m c h hb sa0 n0 sc0 f0 sa1 n1 sc1 f1 w hm hrow hbl hc1 hc2 hn0 hn1 hs0 hs1 ha0 ha1)
  obtain ⟨A, hA⟩ : ∃ A, A = anyTo (fun k => offB n0 f0 n1 f1 (h k)) m := ⟨_, rfl⟩
  rw [← hA]
  rw [← hA] at HQ
  clear hA hs0 hs1 ha0 ha1 hrow hc1 hc2
  go_enter Tryz.func67, Tryz.ntmps67
  go_wp2_with fail
  refine HQ.out.mono ?_
  rintro e w1 ⟨r, rfl, hd, hB⟩
  have HD := hide hd
  have HB := hide hB
  clear hd hB
  go_wp2
  go_ret
  exact ⟨ret_bool HD.out, HB.out⟩

set_option maxRecDepth 100000 in
set_option maxHeartbeats 2000000 in
theorem hasOff_any (bd offd n cap : Nat) (sa0 : Option Addr) (n0 sc0 : Nat) (f0 : Nat → Source) (sa1 : Option Addr) (n1 sc1 : Nat) (f1 : Nat → Target) (d : Deed) (a0 : Option Addr) (cap0 : Nat) (a1 : Option Addr) (cap1 : Nat) (w : World) (hn0 : (n0 : Int) ≤ 1048576) (hn1 : (n1 : Int) ≤ 1048576) (hs0 : SlSource w sa0 n0 f0) (hs1 : SlTarget w sa1 n1 f1) (ha0 : ascTo (nm0 f0) n0 = true) (ha1 : ascTo (nm1 f1) n1 = true) (hL : SlLink w a1 d.linksN d.links) (hfl : d.linksN ≤ 1048576) :
    Calls Tryz.prog 34 #[.agg #[.slice (some ⟨bd, offd, none⟩) n cap, .slice sa0 n0 sc0, .slice sa1 n1 sc1], .agg #[.string d.name, .int .i64 d.kind, .int .i64 d.code, .string d.text, .slice a0 d.actN cap0, .slice a1 d.linksN cap1]] w fun e w' => e = .returned (.bool (hasB n0 f0 n1 f1 d)) ∧ Below w.heap.size w w' := by
  have A0 := hide (((Below.refl w.heap.size w).alloc (Nat.le_refl _) (.cells #[.slice (some ⟨bd, offd, none⟩) n cap, .slice sa0 n0 sc0, .slice sa1 n1 sc1] 59)).alloc (by simp) (.cells #[.string d.name, .int .i64 d.kind, .int .i64 d.code, .string d.text, .slice a0 d.actN cap0, .slice a1 d.linksN cap1] 54))
  have HQ := hide (containsLink_any a1 d.linksN cap1 d.links w.heap.size sa0 n0 sc0 f0 sa1 n1 sc1 f1 _ (by omega) (hL.below A0.out (Nat.le_refl _)) (by simp; omega) (by simp [go_sem]) (by simp [go_sem]) hn0 hn1 (hs0.below A0.out (Nat.le_refl _)) (hs1.below A0.out (Nat.le_refl _)) ha0 ha1)
  obtain ⟨r, hr⟩ : ∃ r, r = hasB n0 f0 n1 f1 d := ⟨_, rfl⟩
  rw [← hr]
  have HR := hide (show anyTo (fun k => offB n0 f0 n1 f1 (d.links k)) d.linksN = r from hr.symm)
  rw [HR.out] at HQ
  clear hr hs0 hs1 ha0 ha1 hL HR
  go_enter Tryz.func34, Tryz.ntmps34
  go_wp2_with fail
  refine HQ.out.mono ?_
  rintro e w1 ⟨rfl, hB⟩
  have B1 := hide (A0.out.trans (hB.mono A0.out.size))
  clear hB
  go_wp2
  go_ret
  exact ⟨rfl, B1.out⟩

end Go.Proofs.YtfhdecheaeoopaaGreatDoor.Vp
