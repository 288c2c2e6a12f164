/-
  impl: texts that are too long, actions that are not valid.
-/
import Derived.Test.YtolpgafkojlkoaaDoorCsMeet
import Derived.Test.YtolpgafkojlkoaaDoorVpSl
namespace Go.Proofs.YtolpgafkojlkoaaDoor.Vp
open Go.RowKit

def longT (x : Source) : Bool := decide (2000 < (x.text.size : Int))
set_option maxHeartbeats 1000000 in
theorem cs1_any (nm tx : ByteArray) (w : World) : Calls Tryd.prog 54 #[.agg #[.string nm, .string tx]] w fun e w' => e = .returned (.bool (decide (2000 < (tx.size : Int)))) ∧ Below w.heap.size w w' := by
  go_enter Tryd.func54, Tryd.ntmps54
  go_wp2
  go_ret
  exact ⟨rfl, (Below.refl _ _).alloc (Nat.le_refl _) _⟩

set_option maxHeartbeats 2000000 in
theorem indexS_row (b off m c : Nat) (f : Nat → Source) (w : World) (hm : (m : Int) ≤ 1048576) (hrow : RowSource w b off m f) :
    Calls Tryd.prog 78 #[.slice (some ⟨b, off, none⟩) m c, .func (.func 54) #[] #[]] w fun e w' => ∃ r : Int, e = .returned (.int .i64 r) ∧ decide (0 ≤ r) = anyTo (fun i => longT (f i)) m ∧ Below w.heap.size w w' := by
  have HW := hide hrow
  clear hrow
  go_enter Tryd.func78, Tryd.ntmps78
  go_wp2
  go_loopw [8] (fun i wr => ∃ k : Nat, k ≤ m ∧ i = .int .i64 k ∧ Hid (anyTo (fun i => longT (f i)) k = false) ∧ Below w.heap.size w wr) (fun i _ => m - (intOf i).toNat)
  case atStart => exact ⟨0, by omega, rfl, rfl, Below.refl _ _⟩
  case round =>
    obtain ⟨k, hk, rfl, HK, hB⟩ := hrel
    have HB0 := hide hB
    clear hB
    by_cases hlt : k < m
    · obtain ⟨c0, c1⟩ := (HW.2 k hlt).below HB0 HW.1
      go_wp2_with fail
      refine (cs1_any _ _ _).mono ?_
      rintro e w1 ⟨rfl, hB1⟩
      have B1 := hide (HB0.trans (hB1.mono HB0.size))
      clear hB1
      cases hb : longT (f k) with
      | true =>
        have HB := hide hb
        have h2 : decide (2000 < ((f k).text.size : Int)) = true := hb
        clear hb
        rw [h2]
        clear h2
        go_wp2
        go_ret
        exact ⟨k, rfl, by rw [anyTo_true (p := fun i => longT (f i)) hlt HB.out]; simp, B1.out⟩
      | false =>
        have HB := hide hb
        have h2 : decide (2000 < ((f k).text.size : Int)) = false := hb
        clear hb
        rw [h2]
        clear h2
        go_wp2
        exact ⟨⟨k + 1, by omega, by go_num, by show anyTo _ (k + 1) = false; simp [anyTo, HK.out, HB.out], B1.out⟩, by simp [intOf]; omega⟩
    · have e : k = m := by omega
      subst e
      go_wp2
      go_ret
      exact ⟨-1, rfl, by rw [HK.out]; rfl, HB0⟩
set_option maxHeartbeats 1000000 in
theorem indexS_nil (a0 : Option Addr) (c : Nat) (w : World) :
    Calls Tryd.prog 78 #[.slice a0 0 c, .func (.func 54) #[] #[]] w fun e w' => e = .returned (.int .i64 (-1)) ∧ w' = w := by
  go_enter Tryd.func78, Tryd.ntmps78
  go_wp2
  go_loop [8] (fun i => i = .int .i64 0) (fun _ => 0)
  case atStart => rfl
  case round =>
    subst hrel
    go_wp2
    go_ret
    exact ⟨rfl, rfl⟩
theorem indexS_any (a0 : Option Addr) (m c : Nat) (f : Nat → Source) (w : World) (hm : (m : Int) ≤ 1048576) (hrow : SlSource w a0 m f) :
    Calls Tryd.prog 78 #[.slice a0 m c, .func (.func 54) #[] #[]] w fun e w' => ∃ r : Int, e = .returned (.int .i64 r) ∧ decide (0 ≤ r) = anyTo (fun i => longT (f i)) m ∧ Below w.heap.size w w' := by
  rcases hrow with rfl | ⟨b, off, rfl, hrow⟩
  · exact (indexS_nil a0 c w).mono fun e w' ⟨p, q⟩ => ⟨-1, p, rfl, by rw [q]; exact Below.refl _ _⟩
  · exact indexS_row b off m c f w hm hrow
set_option maxHeartbeats 1000000 in
theorem containsS_any (a0 : Option Addr) (m c : Nat) (f : Nat → Source) (w : World) (hm : (m : Int) ≤ 1048576) (hrow : SlSource w a0 m f) :
    Calls Tryd.prog 53 #[.slice a0 m c, .func (.func 54) #[] #[]] w fun e w' => e = .returned (.bool (anyTo (fun i => longT (f i)) m)) ∧ Below w.heap.size w w' := by
  have HQ := hide (indexS_any a0 m c f w hm hrow)
  obtain ⟨A, hA⟩ : ∃ A, A = anyTo (fun i => longT (f i)) m := ⟨_, rfl⟩
  rw [← hA]
  rw [← hA] at HQ
  clear hA hrow
  go_enter Tryd.func53, Tryd.ntmps53
  go_wp2_with fail
  refine HQ.mono ?_
  rintro e w1 ⟨r, rfl, hd, hB⟩
  have HD := hide hd
  have HB := hide hB
  clear hd hB
  go_wp2
  go_ret
  exact ⟨ret_bool HD, HB⟩

def wrongA (x : Target) : Bool := !valid x.act x.actN
set_option maxHeartbeats 1000000 in
theorem cs2_any (nm : ByteArray) (a : Option Addr) (n cap : Nat) (f : Nat → Ins) (w : World) (hn : n ≤ 1048576) (hv : SlIns w a n f) (hT : Tab w) : Calls Tryd.prog 56 #[.agg #[.string nm, .slice a n cap]] w fun e w' => e = .returned (.bool (!valid f n)) ∧ Below w.heap.size w w' := by
  have A0 := hide ((Below.refl w.heap.size w).alloc (Nat.le_refl _) (.cells #[.string nm, .slice a n cap] 78))
  have HQ := hide (implValid_sl a n cap f (w.alloc (.cells #[.string nm, .slice a n cap] 78)) hn (hv.below A0 (Nat.le_refl _)) (hT.below A0 hT.1))
  clear hv hT
  go_enter Tryd.func56, Tryd.ntmps56
  go_wp2_with fail
  refine HQ.mono ?_
  rintro e w1 ⟨rfl, hB⟩
  have HB := hide (A0.trans (hB.mono (by simp)))
  clear hB
  go_wp2
  go_ret
  exact ⟨rfl, HB⟩

set_option maxHeartbeats 2000000 in
theorem indexT_row (b off m c : Nat) (f : Nat → Target) (w : World) (hm : (m : Int) ≤ 1048576) (hfit : ∀ i, i < m → FitsTarget (f i)) (hT : Tab w) (hrow : RowTarget w b off m f) :
    Calls Tryd.prog 79 #[.slice (some ⟨b, off, none⟩) m c, .func (.func 56) #[] #[]] w fun e w' => ∃ r : Int, e = .returned (.int .i64 r) ∧ decide (0 ≤ r) = anyTo (fun i => wrongA (f i)) m ∧ Below w.heap.size w w' := by
  have HW := hide hrow
  have HF := hide hfit
  have HT := hide hT
  clear hrow hfit hT
  go_enter Tryd.func79, Tryd.ntmps79
  go_wp2
  go_loopw [8] (fun i wr => ∃ k : Nat, k ≤ m ∧ i = .int .i64 k ∧ Hid (anyTo (fun i => wrongA (f i)) k = false) ∧ Below w.heap.size w wr) (fun i _ => m - (intOf i).toNat)
  case atStart => exact ⟨0, by omega, rfl, rfl, Below.refl _ _⟩
  case round =>
    obtain ⟨k, hk, rfl, HK, hB⟩ := hrel
    have HB0 := hide hB
    clear hB
    by_cases hlt : k < m
    · obtain ⟨c0, ka, kc, c1, hk1⟩ := (HW.2 k hlt).below HB0 (Nat.le_refl _) HW.1
      have HK1 := hide hk1
      clear hk1
      go_wp2_with fail
      refine (cs2_any (f k).name ka (f k).actN kc (f k).act _ (HF k hlt) HK1 (HT.below HB0 HT.1)).mono ?_
      rintro e w1 ⟨rfl, hB1⟩
      have B1 := hide (HB0.trans (hB1.mono HB0.size))
      clear hB1
      cases hb : wrongA (f k) with
      | true =>
        have HB := hide hb
        have h2 : (!valid (f k).act (f k).actN) = true := hb
        clear hb
        rw [h2]
        clear h2
        go_wp2
        go_ret
        exact ⟨k, rfl, by rw [anyTo_true (p := fun i => wrongA (f i)) hlt HB.out]; simp, B1.out⟩
      | false =>
        have HB := hide hb
        have h2 : (!valid (f k).act (f k).actN) = false := hb
        clear hb
        rw [h2]
        clear h2
        go_wp2
        exact ⟨⟨k + 1, by omega, by go_num, by show anyTo _ (k + 1) = false; simp [anyTo, HK.out, HB.out], B1.out⟩, by simp [intOf]; omega⟩
    · have e : k = m := by omega
      subst e
      go_wp2
      go_ret
      exact ⟨-1, rfl, by rw [HK.out]; rfl, HB0⟩
set_option maxHeartbeats 1000000 in
theorem indexT_nil (a0 : Option Addr) (c : Nat) (w : World) :
    Calls Tryd.prog 79 #[.slice a0 0 c, .func (.func 56) #[] #[]] w fun e w' => e = .returned (.int .i64 (-1)) ∧ w' = w := by
  go_enter Tryd.func79, Tryd.ntmps79
  go_wp2
  go_loop [8] (fun i => i = .int .i64 0) (fun _ => 0)
  case atStart => rfl
  case round =>
    subst hrel
    go_wp2
    go_ret
    exact ⟨rfl, rfl⟩
theorem indexT_any (a0 : Option Addr) (m c : Nat) (f : Nat → Target) (w : World) (hm : (m : Int) ≤ 1048576) (hfit : ∀ i, i < m → FitsTarget (f i)) (hT : Tab w) (hrow : SlTarget w a0 m f) :
    Calls Tryd.prog 79 #[.slice a0 m c, .func (.func 56) #[] #[]] w fun e w' => ∃ r : Int, e = .returned (.int .i64 r) ∧ decide (0 ≤ r) = anyTo (fun i => wrongA (f i)) m ∧ Below w.heap.size w w' := by
  rcases hrow with rfl | ⟨b, off, rfl, hrow⟩
  · exact (indexT_nil a0 c w).mono fun e w' ⟨p, q⟩ => ⟨-1, p, rfl, by rw [q]; exact Below.refl _ _⟩
  · exact indexT_row b off m c f w hm hfit hT hrow
set_option maxHeartbeats 1000000 in
theorem containsT_any (a0 : Option Addr) (m c : Nat) (f : Nat → Target) (w : World) (hm : (m : Int) ≤ 1048576) (hfit : ∀ i, i < m → FitsTarget (f i)) (hT : Tab w) (hrow : SlTarget w a0 m f) :
    Calls Tryd.prog 55 #[.slice a0 m c, .func (.func 56) #[] #[]] w fun e w' => e = .returned (.bool (anyTo (fun i => wrongA (f i)) m)) ∧ Below w.heap.size w w' := by
  have HQ := hide (indexT_any a0 m c f w hm hfit hT hrow)
  obtain ⟨A, hA⟩ : ∃ A, A = anyTo (fun i => wrongA (f i)) m := ⟨_, rfl⟩
  rw [← hA]
  rw [← hA] at HQ
  clear hA hrow hfit hT
  go_enter Tryd.func55, Tryd.ntmps55
  go_wp2_with fail
  refine HQ.mono ?_
  rintro e w1 ⟨r, rfl, hd, hB⟩
  have HD := hide hd
  have HB := hide hB
  clear hd hB
  go_wp2
  go_ret
  exact ⟨ret_bool HD, HB⟩

end Go.Proofs.YtolpgafkojlkoaaDoor.Vp
