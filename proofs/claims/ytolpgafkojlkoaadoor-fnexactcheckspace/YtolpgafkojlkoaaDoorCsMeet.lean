/-
  impl: meet.
-/
import Derived.Test.YtolpgafkojlkoaaDoorCsFind
namespace Go.Proofs.YtolpgafkojlkoaaDoor.Vp
open Go.RowKit

theorem isIn_zero (g : Nat → ByteArray) (t : ByteArray) : isIn g 0 t = false := rfl
theorem search_any (a : Option Addr) (n cap : Nat) (g : Nat → ByteArray) (t : ByteArray) (w : World) (hn : (n : Int) ≤ 1048576) (hr : SlStr w a n g) (hs : ascTo g n = true) :
    Calls Tryd.prog 77 #[.slice a n cap, .string t] w fun e w' => ∃ i : Int, e = .returned (.tuple #[.int .i64 i, .bool (isIn g n t)]) ∧ w' = w := by
  rcases hr with rfl | ⟨b, off, rfl, hr⟩
  · exact search_nil a cap t w
  · exact search_row b off n cap g t w hn hr hs

set_option maxHeartbeats 1000000 in
theorem meet1_any (s : ByteArray) (bx : Nat) (a : Option Addr) (n cap : Nat) (g : Nat → ByteArray) (w : World) (hc : w.cell? ⟨bx, 0, none⟩ = some (.slice a n cap)) (hn : (n : Int) ≤ 1048576) (hr : SlStr w a n g) (hs : ascTo g n = true) :
    Calls Tryd.prog 76 #[.string s, .pointer (some ⟨bx, 0, none⟩)] w fun e w' => e = .returned (.bool (isIn g n s)) ∧ w' = w := by
  have HR := hide hr
  have HS := hide hs
  clear hr hs
  go_enter Tryd.func76, Tryd.ntmps76
  go_wp2_with fail
  refine (search_any a n cap g s _ hn HR HS).mono ?_
  rintro e w1 ⟨i, rfl, rfl⟩
  go_wp2
  go_ret
  exact ⟨rfl, rfl⟩

def anyTo (p : Nat → Bool) : Nat → Bool
  | 0 => false
  | k + 1 => anyTo p k || p k
theorem anyTo_true {p : Nat → Bool} {k n : Nat} (h : k < n) (hk : p k = true) : anyTo p n = true := by
  induction n with
  | zero => omega
  | succ m ih =>
    by_cases e : k = m
    · subst e; simp [anyTo, hk]
    · simp [anyTo, ih (by omega)]

set_option maxHeartbeats 2000000 in
theorem index_row (b off m c : Nat) (h : Nat → ByteArray) (bx : Nat) (a : Option Addr) (n cap : Nat) (g : Nat → ByteArray) (w : World) (hm : (m : Int) ≤ 1048576) (hrow : RowStr w b off m h) (hc : w.cell? ⟨bx, 0, none⟩ = some (.slice a n cap)) (hn : (n : Int) ≤ 1048576) (hr : SlStr w a n g) (hs : ascTo g n = true) :
    Calls Tryd.prog 90 #[.slice (some ⟨b, off, none⟩) m c, .func (.func 76) #[] #[.pointer (some ⟨bx, 0, none⟩)]] w fun e w' => ∃ r : Int, e = .returned (.int .i64 r) ∧ decide (0 ≤ r) = anyTo (fun i => isIn g n (h i)) m ∧ w' = w := by
  have HW := hide hrow
  have HR := hide hr
  have HS := hide hs
  clear hr hs hrow
  go_enter Tryd.func90, Tryd.ntmps90
  go_wp2
  go_loop [8] (fun i => ∃ k : Nat, k ≤ m ∧ i = .int .i64 k ∧ Hid (anyTo (fun i => isIn g n (h i)) k = false)) (fun i => m - (intOf i).toNat)
  case atStart => exact ⟨0, by omega, rfl, rfl⟩
  case round =>
    obtain ⟨k, hk, rfl, HK⟩ := hrel
    by_cases hlt : k < m
    · have c0 := HW.2 k hlt
      cases hb : isIn g n (h k) with
      | true =>
        have HB := hide hb
        clear hb
        go_wp2_with (go_at_call 76; refine (meet1_any _ bx a n cap g _ hc hn HR HS).mono ?_; rintro e w1 ⟨rfl, rfl⟩; rw [HB.out])
        go_ret
        exact ⟨k, rfl, by rw [anyTo_true hlt HB.out]; simp, rfl⟩
      | false =>
        have HB := hide hb
        clear hb
        go_wp2_with (go_at_call 76; refine (meet1_any _ bx a n cap g _ hc hn HR HS).mono ?_; rintro e w1 ⟨rfl, rfl⟩; rw [HB.out])
        exact ⟨⟨k + 1, by omega, by go_num, by show anyTo _ (k + 1) = false; simp [anyTo, HK.out, HB.out]⟩, by simp [intOf]; omega⟩
    · have e : k = m := by omega
      subst e
      go_wp2
      go_ret
      exact ⟨-1, rfl, by rw [HK.out]; rfl, rfl⟩

set_option maxHeartbeats 1000000 in
theorem index_nil (a0 : Option Addr) (c : Nat) (fv : Value) (bx : Nat) (hf : fv = .func (.func 76) #[] #[.pointer (some ⟨bx, 0, none⟩)]) (w : World) :
    Calls Tryd.prog 90 #[.slice a0 0 c, fv] w fun e w' => ∃ r : Int, e = .returned (.int .i64 r) ∧ decide (0 ≤ r) = false ∧ w' = w := by
  subst hf
  go_enter Tryd.func90, Tryd.ntmps90
  go_wp2
  go_loop [8] (fun i => i = .int .i64 0) (fun _ => 0)
  case atStart => rfl
  case round =>
    subst hrel
    go_wp2
    go_ret
    first
      | exact ⟨-1, rfl, rfl, rfl⟩
      | exact ⟨-1, rfl, by decide, rfl⟩
      | exact ⟨⟨-1, rfl, by decide⟩, rfl⟩
      | exact ⟨-1, by decide, rfl⟩
theorem index_any (a0 : Option Addr) (m c : Nat) (h : Nat → ByteArray) (bx : Nat) (a : Option Addr) (n cap : Nat) (g : Nat → ByteArray) (w : World) (hm : (m : Int) ≤ 1048576) (hrow : SlStr w a0 m h) (hc : w.cell? ⟨bx, 0, none⟩ = some (.slice a n cap)) (hn : (n : Int) ≤ 1048576) (hr : SlStr w a n g) (hs : ascTo g n = true) :
    Calls Tryd.prog 90 #[.slice a0 m c, .func (.func 76) #[] #[.pointer (some ⟨bx, 0, none⟩)]] w fun e w' => ∃ r : Int, e = .returned (.int .i64 r) ∧ decide (0 ≤ r) = anyTo (fun i => isIn g n (h i)) m ∧ w' = w := by
  rcases hrow with rfl | ⟨b, off, rfl, hrow⟩
  · exact index_nil a0 c _ bx rfl w
  · exact index_row b off m c h bx a n cap g w hm hrow hc hn hr hs
set_option maxHeartbeats 1000000 in
theorem contains_any (a0 : Option Addr) (m c : Nat) (h : Nat → ByteArray) (bx : Nat) (a : Option Addr) (n cap : Nat) (g : Nat → ByteArray) (w : World) (hm : (m : Int) ≤ 1048576) (hrow : SlStr w a0 m h) (hc : w.cell? ⟨bx, 0, none⟩ = some (.slice a n cap)) (hn : (n : Int) ≤ 1048576) (hr : SlStr w a n g) (hs : ascTo g n = true) :
    Calls Tryd.prog 75 #[.slice a0 m c, .func (.func 76) #[] #[.pointer (some ⟨bx, 0, none⟩)]] w fun e w' => e = .returned (.bool (anyTo (fun i => isIn g n (h i)) m)) ∧ w' = w := by
  have HQ := hide (index_any a0 m c h bx a n cap g w hm hrow hc hn hr hs)
  obtain ⟨A, hA⟩ : ∃ A, A = anyTo (fun i => isIn g n (h i)) m := ⟨_, rfl⟩
  rw [← hA]
  rw [← hA] at HQ
  clear hA hr hs hrow
  go_enter Tryd.func75, Tryd.ntmps75
  go_wp2_with fail
  refine HQ.mono ?_
  rintro e w1 ⟨r, rfl, hd, rfl⟩
  have HD := hide hd
  clear hd
  go_wp2
  go_ret
  exact ⟨ret_bool HD, rfl⟩
set_option maxHeartbeats 1000000 in
theorem meet_any (a0 : Option Addr) (m c : Nat) (h : Nat → ByteArray) (a : Option Addr) (n cap : Nat) (g : Nat → ByteArray) (w : World) (hm : (m : Int) ≤ 1048576) (hrow : SlStr w a0 m h) (hn : (n : Int) ≤ 1048576) (hr : SlStr w a n g) (hs : ascTo g n = true) :
    Calls Tryd.prog 52 #[.slice a0 m c, .slice a n cap] w fun e w' => e = .returned (.bool (anyTo (fun i => isIn g n (h i)) m)) ∧ Below w.heap.size w w' := by
  have A0 := hide ((Below.refl w.heap.size w).alloc (Nat.le_refl _) (.cells #[.slice a n cap] 22))
  have HQ := hide (contains_any a0 m c h w.heap.size a n cap g (w.alloc (.cells #[.slice a n cap] 22)) hm (hrow.below A0 (Nat.le_refl _)) (by simp) hn (hr.below A0 (Nat.le_refl _)) hs)
  obtain ⟨A, hA⟩ : ∃ A, A = anyTo (fun i => isIn g n (h i)) m := ⟨_, rfl⟩
  rw [← hA]
  rw [← hA] at HQ
  clear hA hr hs hrow
  go_enter Tryd.func52, Tryd.ntmps52
  go_wp2_with fail
  refine HQ.mono ?_
  rintro e w1 ⟨rfl, rfl⟩
  go_wp2
  go_ret
  exact ⟨rfl, A0⟩

end Go.Proofs.YtolpgafkojlkoaaDoor.Vp
