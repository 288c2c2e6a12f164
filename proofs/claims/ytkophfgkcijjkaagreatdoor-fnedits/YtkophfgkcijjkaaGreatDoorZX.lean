import Derived.Test.YtkophfgkcijjkaaGreatDoorZK
import Derived.Test.YtkophfgkcijjkaaGreatDoorZP
namespace Go.Proofs.YtkophfgkcijjkaaGreatDoor.Vp
open Go.RowKit Go.Sort
theorem cmp_neg : ∀ a b : List UInt8, decide (Lib.compareBytes a b < 0) = Op.bytesLess a b
  | [], [] => by simp [Lib.compareBytes, Op.bytesLess]
  | [], _ :: _ => by simp [Lib.compareBytes, Op.bytesLess]
  | _ :: _, [] => by simp [Lib.compareBytes, Op.bytesLess]
  | a :: x, b :: y => by
    have ih := cmp_neg x y
    rw [Lib.compareBytes, Op.bytesLess, ← ih]
    by_cases h1 : a < b
    · simp [h1]
    · rw [if_neg h1]
      by_cases h2 : b < a
      · have h3 : ¬ a = b := fun e => by subst e; exact h1 h2
        simp [h1, h2, h3]
      · have h3 : a = b := UInt8.le_antisymm (UInt8.not_lt.1 h2) (UInt8.not_lt.1 h1)
        subst h3
        simp [h1]
theorem cmp_zero : ∀ a b : List UInt8, decide (Lib.compareBytes a b = 0) = (a == b)
  | [], [] => by simp [Lib.compareBytes]
  | [], _ :: _ => by simp [Lib.compareBytes]
  | _ :: _, [] => by simp [Lib.compareBytes]
  | a :: x, b :: y => by
    have ih := cmp_zero x y
    rw [Lib.compareBytes]
    by_cases h1 : a < b
    · have h3 : ¬ a = b := fun e => by subst e; exact (UInt8.lt_irrefl _ h1)
      simp [h1, h3]
    · rw [if_neg h1]
      by_cases h2 : b < a
      · have h3 : ¬ a = b := fun e => by subst e; exact h1 h2
        simp [h2, h3]
      · have h3 : a = b := UInt8.le_antisymm (UInt8.not_lt.1 h2) (UInt8.not_lt.1 h1)
        subst h3
        rw [if_neg h2, ih]
        simp
theorem cmp_told (a b : ByteArray) : ∃ z : Int, Lib.compareBytes a.data.toList b.data.toList = z ∧ decide (z < 0) = tless a b ∧ decide (z = 0) = (a.toList == b.toList) := by
  refine ⟨_, rfl, ?_, ?_⟩
  · rw [cmp_neg]
    simp only [tless, ByteArray.toList_eq]
  · rw [cmp_zero]
    simp only [ByteArray.toList_eq]
set_option maxHeartbeats 1000000 in
theorem findSource1_any (nm tx : ByteArray) (t : ByteArray) (w : World) : Calls Tryz.prog 133 #[.agg #[.string nm, .string tx], .string t] w fun e w' => ∃ z : Int, e = .returned (.int .i64 z) ∧ decide (z < 0) = tless nm t ∧ decide (z = 0) = (nm.toList == t.toList) ∧ Below w.heap.size w w' := by
  have A0 := hide ((Below.refl w.heap.size w).alloc (Nat.le_refl _) (.cells #[.string nm, .string tx] 100))
  obtain ⟨z, hz, h1, h2⟩ := cmp_told nm t
  have HZ := hide hz
  have H1 := hide h1
  have H2 := hide h2
  clear hz h1 h2
  go_enter Tryz.func133, Tryz.ntmps133
  go_wp2_with fail
  refine (Tryz.strings_Compare nm t _).mono ?_
  rintro e w1 ⟨rfl, rfl⟩
  rw [HZ.out]
  go_wp2
  go_ret
  exact ⟨z, rfl, H1.out, H2.out, A0.out⟩
set_option maxRecDepth 100000 in
set_option maxHeartbeats 4000000 in
theorem searchSource_row (b off n cap : Nat) (f : Nat → Source) (t : ByteArray) (w : World) (hn : (n : Int) ≤ 1048576) (hr : RowSource w b off n f) (hs : ascTo (nm0 f) n = true) :
    Calls Tryz.prog 132 #[.slice (some ⟨b, off, none⟩) n cap, .string t, .func (.func 133) #[] #[]] w fun e w' => ∃ i : Nat, e = .returned (.tuple #[.int .i64 (i : Int), .bool (isIn (nm0 f) n t)]) ∧ i ≤ n ∧ (∀ m, m < i → tless (nm0 f m) t = true) ∧ (∀ m, i ≤ m → m < n → tless (nm0 f m) t = false) ∧ Below w.heap.size w w' := by
  have HR := hide hr
  have HS := hide hs
  clear hr hs
  obtain ⟨I, hI2⟩ : ∃ I, I = isIn (nm0 f) n t := ⟨_, rfl⟩
  rw [← hI2]
  have HI2 := hide hI2
  clear hI2
  go_enter Tryz.func132, Tryz.ntmps132
  go_wp2
  go_loopw [9, 10] (fun i j wr => ∃ p q : Nat, p ≤ q ∧ q ≤ n ∧ i = .int .i64 p ∧ j = .int .i64 q ∧ Hid (∀ m, m < p → tless (nm0 f m) t = true) ∧ Hid (∀ m, q ≤ m → m < n → tless (nm0 f m) t = false) ∧ Hid (Below w.heap.size w wr)) (fun i j _ => (intOf j).toNat - (intOf i).toNat)
  case atStart => exact ⟨0, n, by omega, by omega, rfl, rfl, fun m hm => absurd hm (Nat.not_lt_zero _), fun m h1 h2 => by omega, Below.refl _ _⟩
  case round =>
    obtain ⟨p, q, hpq, hq, rfl, rfl, H1, H2, HB⟩ := hrel
    by_cases hlt : p < q
    · obtain ⟨m, hm⟩ : ∃ m : Nat, m = (p + q) / 2 := ⟨_, rfl⟩
      have hm1 : p ≤ m := by omega
      have hm2 : m < q := by omega
      obtain ⟨d0, d1⟩ := (HR.out.2 m (by omega)).below HB.out HR.out.1
      have hsh : ((p : Int) + q) / 2 = m := by omega
      clear hm
      go_wp2_with fail
      go_at_call 133
      refine (findSource1_any (f m).name (f m).text t _).mono ?_
      rintro e w1 ⟨z, rfl, hz1, _, hB1⟩
      have Z1 := hide hz1
      have HB1 := hide (HB.out.trans (hB1.mono HB.out.size))
      clear hz1 hB1
      by_cases hz : z < 0
      · have HL : Hid (tless (nm0 f m) t = true) := by show tless (f m).name t = true; rw [← Z1.out]; exact decide_eq_true hz
        go_wp2
        refine ⟨⟨m + 1, q, by omega, hq, by go_num, rfl, fun x hx => ?_, H2.out, HB1.out⟩, by simp [intOf]; omega⟩
        by_cases e : x = m
        · subst e; exact HL.out
        · exact tless_trans (asc_lt HS.out (show x < m by omega) (by omega)) HL.out
      · have HL : Hid (tless (nm0 f m) t = false) := by show tless (f m).name t = false; rw [← Z1.out]; exact decide_eq_false hz
        go_wp2
        refine ⟨⟨p, m, hm1, by omega, rfl, rfl, H1.out, fun x h1 h2 => ?_, HB1.out⟩, by simp [intOf]; omega⟩
        by_cases e : x = m
        · subst e; exact HL.out
        · cases hx : tless (nm0 f x) t with
          | false => rfl
          | true =>
            have := tless_trans (asc_lt HS.out (show m < x by omega) h2) hx
            rw [HL.out] at this
            cases this
    · have e : p = q := by omega
      subst e
      have HI := hide (HI2.out.trans (isIn_at HS.out hq H1.out H2.out))
      by_cases hlt2 : p < n
      · have hlt3 : (p : Int) < n := by omega
        obtain ⟨d0, d1⟩ := (HR.out.2 p hlt2).below HB.out HR.out.1
        go_wp2_with fail
        go_at_call 133
        refine (findSource1_any (f p).name (f p).text t _).mono ?_
        rintro e w1 ⟨z, rfl, _, hz2, hB1⟩
        have HB1 := hide (HB.out.trans (hB1.mono HB.out.size))
        have HI3 : Hid (I = decide (z = 0)) := by show I = _; rw [HI.out, hz2]; simp [hlt2]
        clear hz2 hB1
        by_cases hz : z = 0
        · have hI4 : I = true := by rw [HI3.out]; exact decide_eq_true hz
          subst hI4
          subst hz
          go_wp2
          exact bodyPost_ret (v := .tuple #[.int .i64 p, .bool true]) (by simp [results, Tryz.results132, go_sem]) rfl ⟨p, rfl, hq, H1.out, H2.out, HB1.out⟩
        · have hI4 : I = false := by rw [HI3.out]; exact decide_eq_false hz
          subst hI4
          have hz' : (z == 0) = false := by simpa using hz
          go_wp2
          exact bodyPost_ret (v := .tuple #[.int .i64 p, .bool false]) (by simp [results, Tryz.results132, go_sem]) rfl ⟨p, rfl, hq, H1.out, H2.out, HB1.out⟩
      · have hI4 : I = false := by rw [HI.out]; simp [hlt2]
        subst hI4
        have hge : ¬ (p : Int) < n := by omega
        go_wp2
        exact bodyPost_ret (v := .tuple #[.int .i64 p, .bool false]) (by simp [results, Tryz.results132, go_sem]) rfl ⟨p, rfl, hq, H1.out, H2.out, HB.out⟩
set_option maxHeartbeats 1000000 in
theorem searchSource_nil (a : Option Addr) (cap : Nat) (g : Nat → ByteArray) (t : ByteArray) (w : World) :
    Calls Tryz.prog 132 #[.slice a 0 cap, .string t, .func (.func 133) #[] #[]] w fun e w' => e = .returned (.tuple #[.int .i64 0, .bool (isIn g 0 t)]) ∧ w' = w := by
  rw [isIn_zero]
  go_enter Tryz.func132, Tryz.ntmps132
  go_wp2
  go_loop [9, 10] (fun i j => i = .int .i64 0 ∧ j = .int .i64 0) (fun _ _ => 0)
  case atStart => exact ⟨rfl, rfl⟩
  case round =>
    obtain ⟨rfl, rfl⟩ := hrel
    go_wp2
    exact bodyPost_ret (v := .tuple #[.int .i64 0, .bool false]) (by simp [results, Tryz.results132, go_sem]) rfl ⟨rfl, rfl⟩
theorem searchSource_any (a : Option Addr) (n cap : Nat) (f : Nat → Source) (t : ByteArray) (w : World) (hn : (n : Int) ≤ 1048576) (hr : SlSource w a n f) (hs : ascTo (nm0 f) n = true) :
    Calls Tryz.prog 132 #[.slice a n cap, .string t, .func (.func 133) #[] #[]] w fun e w' => ∃ i : Nat, e = .returned (.tuple #[.int .i64 (i : Int), .bool (isIn (nm0 f) n t)]) ∧ i ≤ n ∧ (∀ m, m < i → tless (nm0 f m) t = true) ∧ (∀ m, i ≤ m → m < n → tless (nm0 f m) t = false) ∧ Below w.heap.size w w' := by
  rcases hr with rfl | ⟨b, off, rfl, hr⟩
  · exact (searchSource_nil a cap _ t w).mono fun e w' ⟨he, hw⟩ => ⟨0, he, by omega, fun m hm => absurd hm (Nat.not_lt_zero _), fun m _ hm => absurd hm (Nat.not_lt_zero _), by rw [hw]; exact Below.refl _ _⟩
  · exact searchSource_row b off n cap f t w hn hr hs
set_option maxHeartbeats 1000000 in
theorem findSource_any (a0 : Option Addr) (n0 c0 : Nat) (a1 : Option Addr) (n1 c1 : Nat) (f : Nat → Source) (t : ByteArray) (w : World) (hn : (n0 : Int) ≤ 1048576) (hr : SlSource w a0 n0 f) (hs : ascTo (nm0 f) n0 = true) :
    Calls Tryz.prog 58 #[.agg #[.slice a0 n0 c0, .slice a1 n1 c1], .string t] w fun e w' => ∃ i : Nat, e = .returned (.tuple #[.int .i64 (i : Int), .bool (isIn (nm0 f) n0 t)]) ∧ i ≤ n0 ∧ (∀ m, m < i → tless (nm0 f m) t = true) ∧ (∀ m, i ≤ m → m < n0 → tless (nm0 f m) t = false) ∧ Below w.heap.size w w' := by
  have A0 := hide ((Below.refl w.heap.size w).alloc (Nat.le_refl _) (.cells #[.slice a0 n0 c0, .slice a1 n1 c1] 26))
  have HR := hide (hr.below A0.out (Nat.le_refl _))
  have HS := hide hs
  clear hr hs
  obtain ⟨I, hI⟩ : ∃ I, I = isIn (nm0 f) n0 t := ⟨_, rfl⟩
  rw [← hI]
  have HI := hide hI
  clear hI
  go_enter Tryz.func58, Tryz.ntmps58
  go_wp2_with fail
  refine (searchSource_any a0 n0 c0 f t _ hn HR.out HS.out).mono ?_
  rintro e w1 ⟨i, rfl, hi, h1, h2, hB⟩
  rw [← HI.out]
  have H1 := hide h1
  have H2 := hide h2
  have HB := hide (A0.out.trans (hB.mono (by simp)))
  clear h1 h2 hB
  go_wp2
  exact bodyPost_ret (v := .tuple #[.int .i64 i, .bool I]) (by simp [results, Tryz.results58, go_sem]) rfl ⟨i, rfl, hi, H1.out, H2.out, HB.out⟩
set_option maxHeartbeats 1000000 in
theorem findTarget1_any (nm : ByteArray) (a : Option Addr) (k d : Nat) (t : ByteArray) (w : World) : Calls Tryz.prog 148 #[.agg #[.string nm, .slice a k d], .string t] w fun e w' => ∃ z : Int, e = .returned (.int .i64 z) ∧ decide (z < 0) = tless nm t ∧ decide (z = 0) = (nm.toList == t.toList) ∧ Below w.heap.size w w' := by
  have A0 := hide ((Below.refl w.heap.size w).alloc (Nat.le_refl _) (.cells #[.string nm, .slice a k d] 104))
  obtain ⟨z, hz, h1, h2⟩ := cmp_told nm t
  have HZ := hide hz
  have H1 := hide h1
  have H2 := hide h2
  clear hz h1 h2
  go_enter Tryz.func148, Tryz.ntmps148
  go_wp2_with fail
  refine (Tryz.strings_Compare nm t _).mono ?_
  rintro e w1 ⟨rfl, rfl⟩
  rw [HZ.out]
  go_wp2
  go_ret
  exact ⟨z, rfl, H1.out, H2.out, A0.out⟩
set_option maxRecDepth 100000 in
set_option maxHeartbeats 4000000 in
theorem searchTarget_row (b off n cap : Nat) (f : Nat → Target) (t : ByteArray) (w : World) (hn : (n : Int) ≤ 1048576) (hr : RowTarget w b off n f) (hs : ascTo (nm1 f) n = true) :
    Calls Tryz.prog 147 #[.slice (some ⟨b, off, none⟩) n cap, .string t, .func (.func 148) #[] #[]] w fun e w' => ∃ i : Nat, e = .returned (.tuple #[.int .i64 (i : Int), .bool (isIn (nm1 f) n t)]) ∧ i ≤ n ∧ (∀ m, m < i → tless (nm1 f m) t = true) ∧ (∀ m, i ≤ m → m < n → tless (nm1 f m) t = false) ∧ Below w.heap.size w w' := by
  have HR := hide hr
  have HS := hide hs
  clear hr hs
  obtain ⟨I, hI2⟩ : ∃ I, I = isIn (nm1 f) n t := ⟨_, rfl⟩
  rw [← hI2]
  have HI2 := hide hI2
  clear hI2
  go_enter Tryz.func147, Tryz.ntmps147
  go_wp2
  go_loopw [9, 10] (fun i j wr => ∃ p q : Nat, p ≤ q ∧ q ≤ n ∧ i = .int .i64 p ∧ j = .int .i64 q ∧ Hid (∀ m, m < p → tless (nm1 f m) t = true) ∧ Hid (∀ m, q ≤ m → m < n → tless (nm1 f m) t = false) ∧ Hid (Below w.heap.size w wr)) (fun i j _ => (intOf j).toNat - (intOf i).toNat)
  case atStart => exact ⟨0, n, by omega, by omega, rfl, rfl, fun m hm => absurd hm (Nat.not_lt_zero _), fun m h1 h2 => by omega, Below.refl _ _⟩
  case round =>
    obtain ⟨p, q, hpq, hq, rfl, rfl, H1, H2, HB⟩ := hrel
    by_cases hlt : p < q
    · obtain ⟨m, hm⟩ : ∃ m : Nat, m = (p + q) / 2 := ⟨_, rfl⟩
      have hm1 : p ≤ m := by omega
      have hm2 : m < q := by omega
      obtain ⟨d0, ka, kc, d1, _⟩ := (HR.out.2 m (by omega)).below HB.out (Nat.le_refl _) HR.out.1
      have hsh : ((p : Int) + q) / 2 = m := by omega
      clear hm
      go_wp2_with fail
      go_at_call 148
      refine (findTarget1_any (f m).name ka (f m).actN kc t _).mono ?_
      rintro e w1 ⟨z, rfl, hz1, _, hB1⟩
      have Z1 := hide hz1
      have HB1 := hide (HB.out.trans (hB1.mono HB.out.size))
      clear hz1 hB1
      by_cases hz : z < 0
      · have HL : Hid (tless (nm1 f m) t = true) := by show tless (f m).name t = true; rw [← Z1.out]; exact decide_eq_true hz
        go_wp2
        refine ⟨⟨m + 1, q, by omega, hq, by go_num, rfl, fun x hx => ?_, H2.out, HB1.out⟩, by simp [intOf]; omega⟩
        by_cases e : x = m
        · subst e; exact HL.out
        · exact tless_trans (asc_lt HS.out (show x < m by omega) (by omega)) HL.out
      · have HL : Hid (tless (nm1 f m) t = false) := by show tless (f m).name t = false; rw [← Z1.out]; exact decide_eq_false hz
        go_wp2
        refine ⟨⟨p, m, hm1, by omega, rfl, rfl, H1.out, fun x h1 h2 => ?_, HB1.out⟩, by simp [intOf]; omega⟩
        by_cases e : x = m
        · subst e; exact HL.out
        · cases hx : tless (nm1 f x) t with
          | false => rfl
          | true =>
            have := tless_trans (asc_lt HS.out (show m < x by omega) h2) hx
            rw [HL.out] at this
            cases this
    · have e : p = q := by omega
      subst e
      have HI := hide (HI2.out.trans (isIn_at HS.out hq H1.out H2.out))
      by_cases hlt2 : p < n
      · have hlt3 : (p : Int) < n := by omega
        obtain ⟨d0, ka, kc, d1, _⟩ := (HR.out.2 p hlt2).below HB.out (Nat.le_refl _) HR.out.1
        go_wp2_with fail
        go_at_call 148
        refine (findTarget1_any (f p).name ka (f p).actN kc t _).mono ?_
        rintro e w1 ⟨z, rfl, _, hz2, hB1⟩
        have HB1 := hide (HB.out.trans (hB1.mono HB.out.size))
        have HI3 : Hid (I = decide (z = 0)) := by show I = _; rw [HI.out, hz2]; simp [hlt2]
        clear hz2 hB1
        by_cases hz : z = 0
        · have hI4 : I = true := by rw [HI3.out]; exact decide_eq_true hz
          subst hI4
          subst hz
          go_wp2
          exact bodyPost_ret (v := .tuple #[.int .i64 p, .bool true]) (by simp [results, Tryz.results147, go_sem]) rfl ⟨p, rfl, hq, H1.out, H2.out, HB1.out⟩
        · have hI4 : I = false := by rw [HI3.out]; exact decide_eq_false hz
          subst hI4
          have hz' : (z == 0) = false := by simpa using hz
          go_wp2
          exact bodyPost_ret (v := .tuple #[.int .i64 p, .bool false]) (by simp [results, Tryz.results147, go_sem]) rfl ⟨p, rfl, hq, H1.out, H2.out, HB1.out⟩
      · have hI4 : I = false := by rw [HI.out]; simp [hlt2]
        subst hI4
        have hge : ¬ (p : Int) < n := by omega
        go_wp2
        exact bodyPost_ret (v := .tuple #[.int .i64 p, .bool false]) (by simp [results, Tryz.results147, go_sem]) rfl ⟨p, rfl, hq, H1.out, H2.out, HB.out⟩
set_option maxHeartbeats 1000000 in
theorem searchTarget_nil (a : Option Addr) (cap : Nat) (g : Nat → ByteArray) (t : ByteArray) (w : World) :
    Calls Tryz.prog 147 #[.slice a 0 cap, .string t, .func (.func 148) #[] #[]] w fun e w' => e = .returned (.tuple #[.int .i64 0, .bool (isIn g 0 t)]) ∧ w' = w := by
  rw [isIn_zero]
  go_enter Tryz.func147, Tryz.ntmps147
  go_wp2
  go_loop [9, 10] (fun i j => i = .int .i64 0 ∧ j = .int .i64 0) (fun _ _ => 0)
  case atStart => exact ⟨rfl, rfl⟩
  case round =>
    obtain ⟨rfl, rfl⟩ := hrel
    go_wp2
    exact bodyPost_ret (v := .tuple #[.int .i64 0, .bool false]) (by simp [results, Tryz.results147, go_sem]) rfl ⟨rfl, rfl⟩
theorem searchTarget_any (a : Option Addr) (n cap : Nat) (f : Nat → Target) (t : ByteArray) (w : World) (hn : (n : Int) ≤ 1048576) (hr : SlTarget w a n f) (hs : ascTo (nm1 f) n = true) :
    Calls Tryz.prog 147 #[.slice a n cap, .string t, .func (.func 148) #[] #[]] w fun e w' => ∃ i : Nat, e = .returned (.tuple #[.int .i64 (i : Int), .bool (isIn (nm1 f) n t)]) ∧ i ≤ n ∧ (∀ m, m < i → tless (nm1 f m) t = true) ∧ (∀ m, i ≤ m → m < n → tless (nm1 f m) t = false) ∧ Below w.heap.size w w' := by
  rcases hr with rfl | ⟨b, off, rfl, hr⟩
  · exact (searchTarget_nil a cap _ t w).mono fun e w' ⟨he, hw⟩ => ⟨0, he, by omega, fun m hm => absurd hm (Nat.not_lt_zero _), fun m _ hm => absurd hm (Nat.not_lt_zero _), by rw [hw]; exact Below.refl _ _⟩
  · exact searchTarget_row b off n cap f t w hn hr hs
set_option maxHeartbeats 1000000 in
theorem findTarget_any (a0 : Option Addr) (n0 c0 : Nat) (a1 : Option Addr) (n1 c1 : Nat) (f : Nat → Target) (t : ByteArray) (w : World) (hn : (n1 : Int) ≤ 1048576) (hr : SlTarget w a1 n1 f) (hs : ascTo (nm1 f) n1 = true) :
    Calls Tryz.prog 76 #[.agg #[.slice a0 n0 c0, .slice a1 n1 c1], .string t] w fun e w' => ∃ i : Nat, e = .returned (.tuple #[.int .i64 (i : Int), .bool (isIn (nm1 f) n1 t)]) ∧ i ≤ n1 ∧ (∀ m, m < i → tless (nm1 f m) t = true) ∧ (∀ m, i ≤ m → m < n1 → tless (nm1 f m) t = false) ∧ Below w.heap.size w w' := by
  have A0 := hide ((Below.refl w.heap.size w).alloc (Nat.le_refl _) (.cells #[.slice a0 n0 c0, .slice a1 n1 c1] 26))
  have HR := hide (hr.below A0.out (Nat.le_refl _))
  have HS := hide hs
  clear hr hs
  obtain ⟨I, hI⟩ : ∃ I, I = isIn (nm1 f) n1 t := ⟨_, rfl⟩
  rw [← hI]
  have HI := hide hI
  clear hI
  go_enter Tryz.func76, Tryz.ntmps76
  go_wp2_with fail
  refine (searchTarget_any a1 n1 c1 f t _ hn HR.out HS.out).mono ?_
  rintro e w1 ⟨i, rfl, hi, h1, h2, hB⟩
  rw [← HI.out]
  have H1 := hide h1
  have H2 := hide h2
  have HB := hide (A0.out.trans (hB.mono (by simp)))
  clear h1 h2 hB
  go_wp2
  exact bodyPost_ret (v := .tuple #[.int .i64 i, .bool I]) (by simp [results, Tryz.results76, go_sem]) rfl ⟨i, rfl, hi, H1.out, H2.out, HB.out⟩
set_option maxHeartbeats 1000000 in
theorem has_any (a0 : Option Addr) (n0 c0 : Nat) (f0 : Nat → Source) (a1 : Option Addr) (n1 c1 : Nat) (f1 : Nat → Target) (t : ByteArray) (w : World) (hn0 : (n0 : Int) ≤ 1048576) (hn1 : (n1 : Int) ≤ 1048576) (hr0 : SlSource w a0 n0 f0) (hr1 : SlTarget w a1 n1 f1) (hs0 : ascTo (nm0 f0) n0 = true) (hs1 : ascTo (nm1 f1) n1 = true) :
    Calls Tryz.prog 82 #[.agg #[.slice a0 n0 c0, .slice a1 n1 c1], .string t] w fun e w' => e = .returned (.bool (isIn (nm0 f0) n0 t || isIn (nm1 f1) n1 t)) ∧ Below w.heap.size w w' := by
  have A0 := hide ((Below.refl w.heap.size w).alloc (Nat.le_refl _) (.cells #[.slice a0 n0 c0, .slice a1 n1 c1] 26))
  have k0 : (w.alloc (.cells #[.slice a0 n0 c0, .slice a1 n1 c1] 26)).cell? ⟨w.heap.size, 0, none⟩ = some (.slice a0 n0 c0) := by simp
  have k1 : (w.alloc (.cells #[.slice a0 n0 c0, .slice a1 n1 c1] 26)).cell? ⟨w.heap.size, 1, none⟩ = some (.slice a1 n1 c1) := by simp
  have R0 := hide (hr0.below A0.out (Nat.le_refl _))
  have R1 := hide (hr1.below A0.out (Nat.le_refl _))
  have S0 := hide hs0
  have S1 := hide hs1
  clear hr0 hr1 hs0 hs1
  obtain ⟨I, hI⟩ : ∃ I, I = isIn (nm0 f0) n0 t := ⟨_, rfl⟩
  obtain ⟨J, hJ⟩ : ∃ J, J = isIn (nm1 f1) n1 t := ⟨_, rfl⟩
  rw [← hI, ← hJ]
  have HI := hide hI
  have HJ := hide hJ
  clear hI hJ
  go_enter Tryz.func82, Tryz.ntmps82
  go_wp2_with fail
  refine (findSource_any a0 n0 c0 a1 n1 c1 f0 t _ hn0 R0.out S0.out).mono ?_
  rintro e w1 ⟨i, rfl, _, _, _, hB1⟩
  have j0 := (hB1.cell (p := ⟨w.heap.size, 0, none⟩) (by simp)).trans k0
  have j1 := (hB1.cell (p := ⟨w.heap.size, 1, none⟩) (by simp)).trans k1
  have T1 := hide (R1.out.below hB1 (Nat.le_refl _))
  have B1 := hide (A0.out.trans (hB1.mono (by simp)))
  clear hB1 k0 k1 A0
  rw [← HI.out]
  go_wp2_with fail
  refine (findTarget_any a0 n0 c0 a1 n1 c1 f1 t _ hn1 T1.out S1.out).mono ?_
  rintro e w2 ⟨j, rfl, _, _, _, hB2⟩
  have B2 := hide (B1.out.trans (hB2.mono B1.out.size))
  clear hB2 j0 j1
  rw [← HJ.out]
  clear HI HJ
  cases I
  all_goals
    go_wp2
    go_ret
    exact ⟨rfl, B2.out⟩
end Go.Proofs.YtkophfgkcijjkaaGreatDoor.Vp
