/-
  spec: the small ones that a step calls.
-/
import Derived.Test.YtoaokmdhbagniaaDoorNxImpl
import Derived.Test.YtoaokmdhbagniaaDoorDStr
import Derived.Test.YtoaokmdhbagniaaDoorDDec
namespace Go.Proofs.YtoaokmdhbagniaaDoor.Vp
open Go.RowKit

/-- A run of the specification's, its cells in a row. -/
abbrev runV (at_ : Int) (sv : Value) (st lk : Int) (ov : Bool) (c : Int) (x : ByteArray) (ask : Bool) (nm : ByteArray) (wt : Bool) : Value :=
  .agg #[.int .i64 at_, sv, .int .i64 st, .int .i64 lk, .bool ov, .int .i64 c, .string x, .bool ask, .string nm, .bool wt]
theorem ten_set {B g : Nat} {u w : World} (h : Below B u w) (hg : B ≤ g) (v0 v1 v2 v3 v4 v5 v6 v7 v8 v9 : Value) : Below B u ((((((((((w.setCell ⟨g, 0, none⟩ v0).setCell ⟨g, 1, none⟩ v1).setCell ⟨g, 2, none⟩ v2).setCell ⟨g, 3, none⟩ v3).setCell ⟨g, 4, none⟩ v4).setCell ⟨g, 5, none⟩ v5).setCell ⟨g, 6, none⟩ v6).setCell ⟨g, 7, none⟩ v7).setCell ⟨g, 8, none⟩ v8).setCell ⟨g, 9, none⟩ v9) :=
  (((((((((h.setCell hg v0).setCell hg v1).setCell hg v2).setCell hg v3).setCell hg v4).setCell hg v5).setCell hg v6).setCell hg v7).setCell hg v8).setCell hg v9

set_option maxHeartbeats 1000000 in
theorem l1End_any (at_ : Int) (a : Option Addr) (n cap : Nat) (st lk : Int) (ov : Bool) (c0 : Int) (x0 : ByteArray) (ask : Bool) (nm : ByteArray) (wt : Bool) (c : Int) (x : ByteArray) (w : World) :
    Calls Tryd.prog 88 #[runV at_ (.slice a n cap) st lk ov c0 x0 ask nm wt, .int .i64 c, .string x] w fun e w' => e = .returned (runV at_ (.slice a n cap) st lk true c x ask nm wt) ∧ Below w.heap.size w w' := by
  go_enter Tryd.func88, Tryd.ntmps88
  go_wp2
  refine bodyPost_ret (v := runV at_ (.slice a n cap) st lk true c x ask nm wt) (by simp [results, Tryd.results88, go_sem]) rfl ⟨rfl, ((Below.refl _ _).alloc (Nat.le_refl _) _).alloc (by simp) _⟩

set_option maxHeartbeats 1000000 in
theorem l1Takes_any (op : Nat) (w : World) (h1 : 1 ≤ op) (h15 : op ≤ 15) :
    Calls Tryd.prog 89 #[.int .i64 op] w fun e w' => e = .returned (.tuple #[.int .i64 (takesOf op), .int .i64 (putsOf op)]) ∧ w' = w := by
  rcases (show op = 1 ∨ op = 2 ∨ op = 3 ∨ op = 4 ∨ op = 5 ∨ op = 6 ∨ op = 7 ∨ op = 8 ∨ op = 9 ∨ op = 10 ∨ op = 11 ∨ op = 12 ∨ op = 13 ∨ op = 14 ∨ op = 15 by omega) with rfl | rfl | rfl | rfl | rfl | rfl | rfl | rfl | rfl | rfl | rfl | rfl | rfl | rfl | rfl
  all_goals
    go_enter Tryd.func89, Tryd.ntmps89
    go_wp2
    refine bodyPost_ret (v := .tuple #[.int .i64 (takesOf _), .int .i64 (putsOf _)]) (by simp [results, Tryd.results89, go_sem, takesOf, putsOf]) rfl ⟨rfl, rfl⟩

def plainL (op n : Nat) (t a b : ByteArray) : List ByteArray :=
  match op with
  | 1 => [t]
  | 2 => [b ++ a]
  | 3 => [if n < a.size then a.extract 0 n else a]
  | 4 => [if n < a.size then a.extract n a.size else ⟨#[]⟩]
  | 5 => [wordT a n]
  | 6 => [flagT (a.toList == b.toList)]
  | 7 => [a, a]
  | 8 => [a, b]
  | _ => []

theorem row1 (w : World) (x : ByteArray) (g : Nat) (hg : g = w.heap.size) : RowStr (w.alloc (.cells #[.string x] 9)) g 0 1 (fun i => [x].getD i ⟨#[]⟩) := by
  subst hg
  exact ⟨by simp, fun i hi => by obtain rfl : i = 0 := by omega
                                 simp⟩
theorem row2 (w : World) (x y : ByteArray) (g : Nat) (hg : g = w.heap.size) : RowStr (w.alloc (.cells #[.string x, .string y] 9)) g 0 2 (fun i => [x, y].getD i ⟨#[]⟩) := by
  subst hg
  exact ⟨by simp, fun i hi => by rcases (show i = 0 ∨ i = 1 by omega) with rfl | rfl <;> simp⟩

set_option maxHeartbeats 4000000 in
theorem l1Plain_any (op n : Nat) (t a b : ByteArray) (w : World) (h1 : 1 ≤ op) (h8 : op ≤ 8) (ha : a.size ≤ 2000) (hb : b.size ≤ 2000) (hn : n ≤ 2000) :
    Calls Tryd.prog 91 #[.agg #[.int .i64 op, .string t, .int .i64 n], .string a, .string b] w fun e w' => ∃ g, e = .returned (.slice (some ⟨g, 0, none⟩) (plainL op n t a b).length (plainL op n t a b).length) ∧ RowStr w' g 0 (plainL op n t a b).length (fun i => (plainL op n t a b).getD i ⟨#[]⟩) ∧ w.heap.size ≤ g ∧ Below w.heap.size w w' := by
  have A0 := hide ((Below.refl w.heap.size w).alloc (Nat.le_refl _) (.cells #[.int .i64 op, .string t, .int .i64 n] 127))
  rcases (show op = 1 ∨ op = 2 ∨ op = 3 ∨ op = 4 ∨ op = 5 ∨ op = 6 ∨ op = 7 ∨ op = 8 by omega) with rfl | rfl | rfl | rfl | rfl | rfl | rfl | rfl
  · go_enter Tryd.func91, Tryd.ntmps91
    go_wp2
    go_ret
    exact ⟨_, rfl, row1 _ t _ (by simp), by simp, A0.out.alloc (by simp) _⟩
  · go_enter Tryd.func91, Tryd.ntmps91
    go_wp2
    go_ret
    exact ⟨_, rfl, row1 _ (b ++ a) _ (by simp), by simp, A0.out.alloc (by simp) _⟩
  · by_cases h : (n : Int) < a.size
    · have e : plainL 3 n t a b = [a.extract 0 n] := by simp [plainL]; omega
      rw [e]
      clear e
      go_enter Tryd.func91, Tryd.ntmps91
      go_wp2
      go_ret
      exact ⟨_, rfl, row1 _ _ _ (by simp), by simp, A0.out.alloc (by simp) _⟩
    · have e : plainL 3 n t a b = [a] := by simp [plainL]; omega
      rw [e]
      clear e
      go_enter Tryd.func91, Tryd.ntmps91
      go_wp2
      go_ret
      exact ⟨_, rfl, row1 _ _ _ (by simp), by simp, A0.out.alloc (by simp) _⟩
  · by_cases h : (n : Int) < a.size
    · have e : plainL 4 n t a b = [a.extract n a.size] := by simp [plainL]; omega
      rw [e]
      clear e
      go_enter Tryd.func91, Tryd.ntmps91
      go_wp2
      go_ret
      exact ⟨_, rfl, row1 _ _ _ (by simp), by simp, A0.out.alloc (by simp) _⟩
    · have e : plainL 4 n t a b = [⟨#[]⟩] := by simp [plainL]; omega
      rw [e]
      clear e
      go_enter Tryd.func91, Tryd.ntmps91
      go_wp2
      go_ret
      exact ⟨_, rfl, row1 _ _ _ (by simp), by simp, A0.out.alloc (by simp) _⟩
  · go_enter Tryd.func91, Tryd.ntmps91
    go_wp2_with fail
    refine (l1Piece_any a n _ ha hn).mono ?_
    rintro e w1 ⟨rfl, hB1⟩
    have B1 := hide (A0.out.trans (hB1.mono (by simp)))
    clear hB1
    go_wp2
    go_ret
    exact ⟨_, rfl, row1 _ (wordT a n) _ rfl, B1.out.size, B1.out.alloc B1.out.size _⟩
  · go_enter Tryd.func91, Tryd.ntmps91
    go_wp2_with fail
    refine (l1Flag_any _ _).mono ?_
    rintro e w1 ⟨rfl, rfl⟩
    go_wp2
    go_ret
    exact ⟨_, rfl, row1 _ (flagT (a.toList == b.toList)) _ (by simp), by simp, A0.out.alloc (by simp) _⟩
  · go_enter Tryd.func91, Tryd.ntmps91
    go_wp2
    go_ret
    exact ⟨_, rfl, row2 _ a a _ (by simp), by simp, A0.out.alloc (by simp) _⟩
  · go_enter Tryd.func91, Tryd.ntmps91
    go_wp2
    go_ret
    exact ⟨_, rfl, row2 _ a b _ (by simp), by simp, A0.out.alloc (by simp) _⟩

end Go.Proofs.YtoaokmdhbagniaaDoor.Vp
