/-
  Put together of: CsImpl, CsNames.
-/
import Derived.Test.YtfhdecheaeoopaaGreatDoorZDSource
import Derived.Test.YtfhdecheaeoopaaGreatDoorZB
import Derived.OwnWalk
import Derived.Test.YtfhdecheaeoopaaGreatDoorZF

/-
  impl: the small ones of CheckSpace.
-/
namespace Go.Proofs.YtfhdecheaeoopaaGreatDoor.Vp
open Go.RowKit

def namesTo (g : Nat → ByteArray) : Nat → Bool
  | 0 => true
  | k + 1 => namesTo g k && nameOk (g k)
theorem namesTo_mono {g : Nat → ByteArray} {k n : Nat} (h : k ≤ n) (hn : namesTo g n = true) : namesTo g k = true := by
  induction n with
  | zero => obtain rfl : k = 0 := by omega
            exact hn
  | succ m ih =>
    by_cases e : k = m + 1
    · subst e; exact hn
    · simp only [namesTo, Bool.and_eq_true] at hn
      exact ih (by omega) hn.1
theorem namesTo_false {g : Nat → ByteArray} {k n : Nat} (h : k < n) (hk : nameOk (g k) = false) : namesTo g n = false := by
  cases e : namesTo g n with
  | false => rfl
  | true =>
    have h2 := namesTo_mono (show k + 1 ≤ n by omega) e
    simp [namesTo, hk] at h2

set_option maxHeartbeats 1000000 in
theorem things_any (a0 a1 : Option Addr) (n0 c0 n1 c1 : Nat) (w : World) (h0 : (n0 : Int) ≤ 1048576) (h1 : (n1 : Int) ≤ 1048576) :
    Calls Tryz.prog 52 #[.agg #[.slice a0 n0 c0, .slice a1 n1 c1]] w fun e w' => e = .returned (.int .i64 ((n0 : Int) + n1)) ∧ Below w.heap.size w w' := by
  go_enter Tryz.func52, Tryz.ntmps52
  go_wp2
  go_ret
  exact ⟨rfl, (Below.refl _ _).alloc (Nat.le_refl _) _⟩

set_option maxHeartbeats 1000000 in
theorem areNames_row (b off n cap : Nat) (g : Nat → ByteArray) (w : World) (hn : (n : Int) ≤ 1048576) (hr : RowStr w b off n g) :
    Calls Tryz.prog 55 #[.slice (some ⟨b, off, none⟩) n cap] w fun e w' => e = .returned (.bool (namesTo g n)) ∧ Below w.heap.size w w' := by
  have HR := hide hr
  clear hr
  go_enter Tryz.func55, Tryz.ntmps55
  go_wp2
  go_loopw [7] (fun i wr => ∃ k : Nat, k ≤ n ∧ i = .int .i64 k ∧ Hid (namesTo g k = true) ∧ Below w.heap.size w wr) (fun i _ => n - (intOf i).toNat)
  case atStart => exact ⟨0, by omega, rfl, rfl, Below.refl _ _⟩
  case round =>
    obtain ⟨k, hk, rfl, HK, hB⟩ := hrel
    have HB := hide hB
    clear hB
    by_cases hlt : k < n
    · have c0 := (HR.out.below HB.out (Nat.le_refl _)).2 k hlt
      go_wp2_with fail
      refine (isName_any _ _).mono ?_
      rintro e w1 ⟨rfl, hB1⟩
      have B1 := hide (HB.out.trans (hB1.mono HB.out.size))
      clear hB1
      cases hq : nameOk (g k) with
      | true =>
        have HQ := hide hq
        clear hq
        go_wp2
        exact ⟨⟨k + 1, by omega, by go_num, by show namesTo g (k + 1) = true; simp [namesTo, HK.out, HQ.out], B1.out⟩, by simp [intOf]; omega⟩
      | false =>
        have HQ := hide hq
        clear hq
        go_wp2
        go_ret
        exact ⟨ret_bool (namesTo_false hlt HQ.out).symm, B1.out⟩
    · have e : k = n := by omega
      subst e
      go_wp2
      go_ret
      exact ⟨ret_bool HK.out.symm, HB.out⟩

set_option maxHeartbeats 1000000 in
theorem areNames_nil (a : Option Addr) (cap : Nat) (w : World) : Calls Tryz.prog 55 #[.slice a 0 cap] w fun e w' => e = .returned (.bool true) ∧ w' = w := by
  go_enter Tryz.func55, Tryz.ntmps55
  go_wp2
  go_loop [7] (fun i => i = .int .i64 0) (fun _ => 0)
  case atStart => rfl
  case round =>
    subst hrel
    go_wp2
    go_ret
    exact ⟨rfl, rfl⟩
theorem areNames_any (a : Option Addr) (n cap : Nat) (g : Nat → ByteArray) (w : World) (hn : (n : Int) ≤ 1048576) (hr : SlStr w a n g) :
    Calls Tryz.prog 55 #[.slice a n cap] w fun e w' => e = .returned (.bool (namesTo g n)) ∧ Below w.heap.size w w' := by
  rcases hr with rfl | ⟨b, off, rfl, hr⟩
  · exact (areNames_nil a cap w).mono fun e w' ⟨p, q⟩ => ⟨p, by rw [q]; exact Below.refl _ _⟩
  · exact areNames_row b off n cap g w hn hr

/-- The order of texts, as the walk tells it. -/
def ascTo (g : Nat → ByteArray) : Nat → Bool
  | 0 => true
  | 1 => true
  | k + 2 => ascTo g (k + 1) && Op.bytesLess (g k).toList (g (k + 1)).toList
theorem ascTo_mono {g : Nat → ByteArray} {k n : Nat} (h : k ≤ n) (hn : ascTo g n = true) : ascTo g k = true := by
  induction n with
  | zero => obtain rfl : k = 0 := by omega
            exact hn
  | succ m ih =>
    by_cases e : k = m + 1
    · subst e; exact hn
    · cases m with
      | zero => obtain rfl : k = 0 := by omega
                rfl
      | succ j =>
        simp only [ascTo, Bool.and_eq_true] at hn
        exact ih (by omega) hn.1
theorem ascTo_false {g : Nat → ByteArray} {k n : Nat} (h : k + 1 < n) (hk : Op.bytesLess (g k).toList (g (k + 1)).toList = false) : ascTo g n = false := by
  cases e : ascTo g n with
  | false => rfl
  | true =>
    have h2 := ascTo_mono (show k + 2 ≤ n by omega) e
    simp [ascTo, hk] at h2

set_option maxHeartbeats 1000000 in
theorem ascending_row (b off n cap : Nat) (g : Nat → ByteArray) (w : World) (hn : (n : Int) ≤ 1048576) (hr : RowStr w b off n g) :
    Calls Tryz.prog 56 #[.slice (some ⟨b, off, none⟩) n cap] w fun e w' => e = .returned (.bool (ascTo g n)) ∧ Below w.heap.size w w' := by
  have HR := hide hr
  clear hr
  go_enter Tryz.func56, Tryz.ntmps56
  go_wp2
  go_loopw [3] (fun i wr => ∃ k : Nat, (k + 1 ≤ n ∨ k = 0) ∧ i = .int .i64 ((k : Int) + 1) ∧ Hid (ascTo g (k + 1) = true) ∧ Below w.heap.size w wr) (fun i _ => n + 1 - (intOf i).toNat)
  case atStart => exact ⟨0, .inr rfl, rfl, rfl, Below.refl _ _⟩
  case round =>
    obtain ⟨k, hk, rfl, HK, hB⟩ := hrel
    have HB := hide hB
    clear hB
    by_cases hlt : k + 1 < n
    · have c0 := (HR.out.below HB.out (Nat.le_refl _)).2 k (by omega)
      have c1 := (HR.out.below HB.out (Nat.le_refl _)).2 (k + 1) hlt
      have hlt' : (k : Int) + 1 < n := by omega
      go_wp2_with fail
      go_quiet (fail)
      have B1 := hide (below_drewN HB.out nq)
      clear c0 c1
      generalize wr.drewN nq = W at B1 ⊢
      cases hq : Op.bytesLess (g k).toList (g (k + 1)).toList with
      | true =>
        have HQ := hide hq
        clear hq
        go_wp2
        exact ⟨⟨k + 1, .inl (by omega), by go_num, by show ascTo g (k + 2) = true; simp [ascTo, HK.out, HQ.out], B1.out⟩, by simp [intOf]; omega⟩
      | false =>
        have HQ := hide hq
        clear hq
        go_wp2
        go_ret
        exact ⟨ret_bool (ascTo_false hlt HQ.out).symm, B1.out⟩
    · have hge : ¬ (k : Int) + 1 < n := by omega
      go_wp2
      go_ret
      exact ⟨ret_bool (ascTo_mono (show n ≤ k + 1 by omega) HK.out).symm, HB.out⟩

end Go.Proofs.YtfhdecheaeoopaaGreatDoor.Vp

/-
  impl: sourceNames, targetNames: rows of names.
-/
namespace Go.Proofs.YtfhdecheaeoopaaGreatDoor.Vp
open Go.RowKit

def rowL (g : Nat → ByteArray) (n : Nat) : List Value := (List.range n).map fun i => .string (g i)
theorem rowL_succ (g : Nat → ByteArray) (n : Nat) : rowL g (n + 1) = rowL g n ++ [.string (g n)] := by simp [rowL, List.range_succ]
/-- Owned texts as a slice. -/
theorem own_sl {w : World} {base n : Nat} {e : TypeId} {v : Value} {g : Nat → ByteArray} (h : w.ownsRow base e 1 v n (rowL g n)) : ∃ a cap, v = .slice a n cap ∧ SlStr w a n g := by
  rcases h.2 with ⟨rfl, rfl⟩ | ⟨b, cap, cur, rfl, hb, hg, _⟩
  · exact ⟨none, 0, rfl, .inl rfl⟩
  · refine ⟨_, cap, rfl, .inr ⟨b, 0, rfl, lt_of_block hg, fun i hi => ?_⟩⟩
    have := h.cells (g := b) rfl i (.string (g i)) (by simp [rowL, hi])
    rw [Nat.zero_add]
    have ha : (⟨b, 0, none⟩ : Addr).add i = ⟨b, i, none⟩ := by
      unfold Addr.add
      split <;> simp_all
    rwa [ha] at this

set_option maxRecDepth 100000 in
set_option maxHeartbeats 2000000 in
theorem sourceNames_row (b off n c0 : Nat) (v1 : Value) (a1 : Option Addr) (n1 c1 : Nat) (hv1 : v1 = .slice a1 n1 c1) (f : Nat → Source) (w : World) (hn : (n : Int) ≤ 1048576) (hr : RowSource w b off n f) :
    Calls Tryz.prog 53 #[.agg #[.slice (some ⟨b, off, none⟩) n c0, v1]] w fun e w' => ∃ a cap, e = .returned (.slice a n cap) ∧ SlStr w' a n (fun i => (f i).name) ∧ Below w.heap.size w w' := by
  subst hv1
  have HR := hide hr
  clear hr
  obtain ⟨i0', hi, hy0, hy1, hy2⟩ := info_parts infoString
  have A0 := hide ((Below.refl w.heap.size w).alloc (Nat.le_refl _) (.cells #[.slice (some ⟨b, off, none⟩) n c0, .slice a1 n1 c1] 43))
  go_enter Tryz.func53, Tryz.ntmps53
  go_wp2
  go_loopw [3, 9] (fun v i wr => ∃ k : Nat, k ≤ n ∧ i = .int .i64 k ∧ Hid (wr.ownsRow w.heap.size 9 1 v k (rowL (fun i => (f i).name) k)) ∧ Below w.heap.size w wr) (fun _ i _ => n - (intOf i).toNat)
  case atStart => exact ⟨0, by omega, rfl, World.ownsRow_nil _ _ _ _, A0.out⟩
  case round =>
    obtain ⟨k, hk, rfl, OW, hB⟩ := hrel
    have HB := hide hB
    have hsz : w.heap.size ≤ wr.heap.size := hB.size
    clear hB
    by_cases hlt : k < n
    · obtain ⟨d0, d1⟩ := (HR.out.2 k hlt).below HB.out HR.out.1
      go_wp2_with (at_builtin; refine wpList_append_own _ rfl (.tmp 13) (.tmp 16) 108 rfl w.heap.size 9 i0' (.string ⟨#[]⟩) 1 16 Tryz.underlying108 hi hy0 hy1 hy2 rfl (by decide) _ k (rowL (fun i => (f i).name) k) (by simp [Act.eval]) ((OW.out.alloc _).alloc _) ⟨wr.heap.size + 1, 0, none⟩ 1 1 [.string (f k).name] (by simp [Act.eval]) rfl (by rw [show wr.heap.size + 1 = (wr.alloc (.cells #[.string (f k).name, .string (f k).text] 101)).heap.size by simp]; exact one_new _ _ _) (by simp [Value.oneCell']) (by unfold maxLen; omega) (by omega) (by simp; omega) ?_; intro v' w2 hown hgrow hnil; have O2 := hide hown; have B2 := hide (Below.grown ((HB.out.alloc hsz (.cells #[.string (f k).name, .string (f k).text] 101)).alloc (by simp; omega) (.cells #[.string (f k).name] 9)) hgrow (by simp; omega) (fun j e => (OW.out.lt j e).1)); clear hown hgrow hnil)
      exact ⟨⟨k + 1, by omega, by go_num, by show World.ownsRow _ _ _ _ _ _ _; rw [rowL_succ]; exact O2.out, B2.out⟩, by simp [intOf]; omega⟩
    · have e : k = n := by omega
      subst e
      obtain ⟨a, cap, rfl, hsl⟩ := own_sl OW.out
      have HSl := hide hsl
      clear hsl
      go_wp2
      go_ret
      exact ⟨a, cap, rfl, HSl.out, HB.out⟩

set_option maxHeartbeats 1000000 in
theorem sourceNames_nil (a0 : Option Addr) (c0 : Nat) (a1 : Option Addr) (n1 c1 : Nat) (g : Nat → ByteArray) (w : World) :
    Calls Tryz.prog 53 #[.agg #[.slice a0 0 c0, .slice a1 n1 c1]] w fun e w' => ∃ a cap, e = .returned (.slice a 0 cap) ∧ SlStr w' a 0 g ∧ Below w.heap.size w w' := by
  have A0 := hide ((Below.refl w.heap.size w).alloc (Nat.le_refl _) (.cells #[.slice a0 0 c0, .slice a1 n1 c1] 43))
  go_enter Tryz.func53, Tryz.ntmps53
  go_wp2
  go_loopw [3, 9] (fun v i wr => v = .slice none 0 0 ∧ i = .int .i64 0 ∧ Below w.heap.size w wr) (fun _ _ _ => 0)
  case atStart => exact ⟨rfl, rfl, A0.out⟩
  case round =>
    obtain ⟨rfl, rfl, hB⟩ := hrel
    have HB := hide hB
    clear hB
    go_wp2
    go_ret
    exact ⟨none, 0, rfl, .inl rfl, HB.out⟩
theorem sourceNames_any (a0 : Option Addr) (n c0 : Nat) (a1 : Option Addr) (n1 c1 : Nat) (f : Nat → Source) (w : World) (hn : (n : Int) ≤ 1048576) (hr : SlSource w a0 n f) :
    Calls Tryz.prog 53 #[.agg #[.slice a0 n c0, .slice a1 n1 c1]] w fun e w' => ∃ a cap, e = .returned (.slice a n cap) ∧ SlStr w' a n (fun i => (f i).name) ∧ Below w.heap.size w w' := by
  rcases hr with rfl | ⟨b, off, rfl, hr⟩
  · exact sourceNames_nil a0 c0 a1 n1 c1 _ w
  · exact sourceNames_row b off n c0 _ a1 n1 c1 rfl f w hn hr

set_option maxRecDepth 100000 in
set_option maxHeartbeats 2000000 in
theorem targetNames_row (b off n c0 : Nat) (v1 : Value) (a1 : Option Addr) (n1 c1 : Nat) (hv1 : v1 = .slice a1 n1 c1) (f : Nat → Target) (w : World) (hn : (n : Int) ≤ 1048576) (hr : RowTarget w b off n f) :
    Calls Tryz.prog 54 #[.agg #[v1, .slice (some ⟨b, off, none⟩) n c0]] w fun e w' => ∃ a cap, e = .returned (.slice a n cap) ∧ SlStr w' a n (fun i => (f i).name) ∧ Below w.heap.size w w' := by
  subst hv1
  have HR := hide hr
  clear hr
  obtain ⟨i0', hi, hy0, hy1, hy2⟩ := info_parts infoString
  have A0 := hide ((Below.refl w.heap.size w).alloc (Nat.le_refl _) (.cells #[.slice a1 n1 c1, .slice (some ⟨b, off, none⟩) n c0] 43))
  go_enter Tryz.func54, Tryz.ntmps54
  go_wp2
  go_loopw [3, 9] (fun v i wr => ∃ k : Nat, k ≤ n ∧ i = .int .i64 k ∧ Hid (wr.ownsRow w.heap.size 9 1 v k (rowL (fun i => (f i).name) k)) ∧ Below w.heap.size w wr) (fun _ i _ => n - (intOf i).toNat)
  case atStart => exact ⟨0, by omega, rfl, World.ownsRow_nil _ _ _ _, A0.out⟩
  case round =>
    obtain ⟨k, hk, rfl, OW, hB⟩ := hrel
    have HB := hide hB
    have hsz : w.heap.size ≤ wr.heap.size := hB.size
    clear hB
    by_cases hlt : k < n
    · obtain ⟨d0, ka, kc, d1, _⟩ := (HR.out.2 k hlt).below HB.out (Nat.le_refl _) HR.out.1
      go_wp2_with (at_builtin; refine wpList_append_own _ rfl (.tmp 13) (.tmp 16) 108 rfl w.heap.size 9 i0' (.string ⟨#[]⟩) 1 16 Tryz.underlying108 hi hy0 hy1 hy2 rfl (by decide) _ k (rowL (fun i => (f i).name) k) (by simp [Act.eval]) ((OW.out.alloc _).alloc _) ⟨wr.heap.size + 1, 0, none⟩ 1 1 [.string (f k).name] (by simp [Act.eval]) rfl (by rw [show wr.heap.size + 1 = (wr.alloc (.cells #[.string (f k).name, .slice ka (f k).actN kc] 103)).heap.size by simp]; exact one_new _ _ _) (by simp [Value.oneCell']) (by unfold maxLen; omega) (by omega) (by simp; omega) ?_; intro v' w2 hown hgrow hnil; have O2 := hide hown; have B2 := hide (Below.grown ((HB.out.alloc hsz (.cells #[.string (f k).name, .slice ka (f k).actN kc] 103)).alloc (by simp; omega) (.cells #[.string (f k).name] 9)) hgrow (by simp; omega) (fun j e => (OW.out.lt j e).1)); clear hown hgrow hnil)
      exact ⟨⟨k + 1, by omega, by go_num, by show World.ownsRow _ _ _ _ _ _ _; rw [rowL_succ]; exact O2.out, B2.out⟩, by simp [intOf]; omega⟩
    · have e : k = n := by omega
      subst e
      obtain ⟨a, cap, rfl, hsl⟩ := own_sl OW.out
      have HSl := hide hsl
      clear hsl
      go_wp2
      go_ret
      exact ⟨a, cap, rfl, HSl.out, HB.out⟩

set_option maxHeartbeats 1000000 in
theorem targetNames_nil (a0 : Option Addr) (c0 : Nat) (a1 : Option Addr) (n1 c1 : Nat) (g : Nat → ByteArray) (w : World) :
    Calls Tryz.prog 54 #[.agg #[.slice a1 n1 c1, .slice a0 0 c0]] w fun e w' => ∃ a cap, e = .returned (.slice a 0 cap) ∧ SlStr w' a 0 g ∧ Below w.heap.size w w' := by
  have A0 := hide ((Below.refl w.heap.size w).alloc (Nat.le_refl _) (.cells #[.slice a1 n1 c1, .slice a0 0 c0] 43))
  go_enter Tryz.func54, Tryz.ntmps54
  go_wp2
  go_loopw [3, 9] (fun v i wr => v = .slice none 0 0 ∧ i = .int .i64 0 ∧ Below w.heap.size w wr) (fun _ _ _ => 0)
  case atStart => exact ⟨rfl, rfl, A0.out⟩
  case round =>
    obtain ⟨rfl, rfl, hB⟩ := hrel
    have HB := hide hB
    clear hB
    go_wp2
    go_ret
    exact ⟨none, 0, rfl, .inl rfl, HB.out⟩
theorem targetNames_any (a0 : Option Addr) (n c0 : Nat) (a1 : Option Addr) (n1 c1 : Nat) (f : Nat → Target) (w : World) (hn : (n : Int) ≤ 1048576) (hr : SlTarget w a0 n f) :
    Calls Tryz.prog 54 #[.agg #[.slice a1 n1 c1, .slice a0 n c0]] w fun e w' => ∃ a cap, e = .returned (.slice a n cap) ∧ SlStr w' a n (fun i => (f i).name) ∧ Below w.heap.size w w' := by
  rcases hr with rfl | ⟨b, off, rfl, hr⟩
  · exact targetNames_nil a0 c0 a1 n1 c1 _ w
  · exact targetNames_row b off n c0 _ a1 n1 c1 rfl f w hn hr

end Go.Proofs.YtfhdecheaeoopaaGreatDoor.Vp
