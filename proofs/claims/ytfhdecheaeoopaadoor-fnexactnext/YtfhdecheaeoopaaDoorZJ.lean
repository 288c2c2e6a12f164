/-
  Put together of: NxMade, NxGoes, NxPlain.
-/
import Derived.Test.YtfhdecheaeoopaaDoorZI
import Derived.Test.YtfhdecheaeoopaaDoorZA
import Derived.Deep.WholeRow
import Derived.Test.YtfhdecheaeoopaaDoorZC

/-
  A machine, made.
-/
namespace Go.Proofs.YtfhdecheaeoopaaDoor.Vp
open Go.RowKit

def m0 : Mst := { S := fun _ => ⟨#[]⟩, size := 0, place := 0, steps := 0, looks := 0, t := noTurn }
def mach0 (cv : Value) : Array Value := (Array.range 61).map (m0.F cv)
theorem built0 (a : Option Addr) (n cap : Nat) : Tryd.prog.built 58 [(1, .slice a n cap)] = some (mach0 (.slice a n cap)) := by kernel_rfl
theorem infoM : (Tryd.prog.info? 58).map (·.size) = some 61 := by kernel_rfl
theorem mach0_size (cv : Value) : (mach0 cv).size = 61 := by simp [mach0]
theorem mach0_at (cv : Value) (j : Nat) (h : j < 61) : (mach0 cv)[j]? = some (m0.F cv j) := by simp [mach0, h]
theorem mach0_one (a : Option Addr) (n cap : Nat) : (mach0 (.slice a n cap)).all (·.oneCell') = true := by kernel_rfl
theorem mach0_is (w : World) (a : Option Addr) (n cap : Nat) : MAt (w.alloc (.cells (mach0 (.slice a n cap)) 58)) w.heap.size (.slice a n cap) m0 := by
  refine ⟨by simp, fun j hj => ⟨?_, ?_⟩⟩
  · rw [World.cell?_alloc_new]
    exact mach0_at _ j hj
  · simp
theorem build_is {P : Program} {ops : Array Oper} {rest : List Oper} {o : Oper} {a : Act} {w : World} {Q : Exit → Act → World → Prop} (hg : o.guard = none) (t : TypeId) (parts : Array (Nat × Operand)) (ho : o.op = .build t parts)
    (l : List (Nat × Value)) (cells : Array Value) (hl : (parts.map fun (i, x) => (i, a.eval x)).toList = l) (hb : P.built t l = some cells) (h : wpList P ops Q rest (a.put o.dst (.agg cells)) w) : wpList P ops Q (o :: rest) a w := by
  refine wpList_build hg t parts ho (by rw [hl, hb]; rfl) ?_
  rw [hl, hb]
  exact h

end Go.Proofs.YtfhdecheaeoopaaDoor.Vp

/-
  How a machine goes on; what Next answers.
-/
namespace Go.Proofs.YtfhdecheaeoopaaDoor.Vp
open Go.RowKit

theorem Pow.lt {w : World} (h : Pow w) : 1 < w.heap.size := by
  have hc := World.var?_cell gPow h 0
  rcases Nat.lt_or_ge 1 w.heap.size with h' | h'
  · exact h'
  · simp [World.cell?, Array.getElem?_eq_none h', Lib.pow10Tab] at hc
theorem Sim.push {m : Mst} {p st l : Nat} {s : List ByteArray} (hS : Sim m p st l s) (x : ByteArray) (hx : x.size ≤ 2000) (hl : s.length < 50) : Sim { m with t := noTurn, S := upd m.S m.size x, size := m.size + 1 } p st l (x :: s) :=
  ⟨by rw [hS.size]; exact hS.rep.push x, by simp [hS.size], by simp; omega, hS.hpl, hS.hst, hS.hlk, fun z hz => by
    rcases List.mem_cons.1 hz with rfl | hz
    · exact hx
    · exact hS.le z hz, hS.pl, hS.st, hS.lk⟩
theorem flagT_size (b : Bool) : (flagT b).size ≤ 2000 := by cases b <;> decide

/-- Six cells that may be written. -/
def Six (w : World) (g : Nat) : Prop := g < w.heap.size ∧ ∀ j, j < 6 → ∃ v, w.cell? ⟨g, j, none⟩ = some v ∧ w.frozen? ⟨g, j, none⟩ = false
theorem Six.below {w w1 : World} {g B : Nat} (h : Six w g) (hB : Below B w w1) (hg : g < B) : Six w1 g := ⟨Nat.lt_of_lt_of_le h.1 hB.size, fun j hj => by
  obtain ⟨v, h1, h2⟩ := h.2 j hj
  exact ⟨v, (hB.cell (p := ⟨g, j, none⟩) hg).trans h1, (hB.frozen (p := ⟨g, j, none⟩) hg).trans h2⟩⟩
theorem Six.only {w w1 : World} {g b : Nat} (h : Six w g) (hB : Only b w w1) (hg : g ≠ b) : Six w1 g := ⟨Nat.lt_of_lt_of_le h.1 hB.size, fun j hj => by
  obtain ⟨v, h1, h2⟩ := h.2 j hj
  exact ⟨v, (hB.cell g j h.1 hg).trans h1, (hB.frozen g j h.1 hg).trans h2⟩⟩
theorem six_new (w : World) (v0 v1 v2 v3 v4 v5 : Value) (t : TypeId) : Six (w.alloc (.cells #[v0, v1, v2, v3, v4, v5] t)) w.heap.size := ⟨by simp, fun j hj => by
  rcases (show j = 0 ∨ j = 1 ∨ j = 2 ∨ j = 3 ∨ j = 4 ∨ j = 5 by omega) with rfl | rfl | rfl | rfl | rfl | rfl
  all_goals exact ⟨_, by simp; rfl, by simp⟩⟩

theorem six_set {B g : Nat} {u w : World} (h : Below B u w) (hg : B ≤ g) (v0 v1 v2 v3 v4 v5 : Value) : Below B u ((((((w.setCell ⟨g, 0, none⟩ v0).setCell ⟨g, 1, none⟩ v1).setCell ⟨g, 2, none⟩ v2).setCell ⟨g, 3, none⟩ v3).setCell ⟨g, 4, none⟩ v4).setCell ⟨g, 5, none⟩ v5) :=
  (((((h.setCell hg v0).setCell hg v1).setCell hg v2).setCell hg v3).setCell hg v4).setCell hg v5

/-- Where a run, told as it stands in the machine, will halt. -/
def Goes (f : Nat → Ins) (cnt : Nat) (m : Mst) (H : Halt) : Prop := (m.t = noTurn ∧ ∃ p k l s, Sim m p k l s ∧ runP f cnt (2001 - k) p k l s = some H) ∨ Stands m H
theorem goes_of {f : Nat → Ins} {cnt : Nat} {y : Nat → Reply} {n : Nat} {m : Mst} {p st l : Nat} {s : List ByteArray} (ht : m.t = noTurn) (hS : Sim m p st l s) : ∃ H, Goes f cnt m H ∧ contP f cnt y n H = nextP f cnt y n (2001 - st) p st l s ∧ looksOf l H := by
  obtain ⟨H, hH⟩ := runP_some f cnt (2001 - st) p st l s hS.st (by have := hS.st; omega)
  obtain ⟨h1, h2⟩ := next_run f cnt y n (2001 - st) p st l s H hS.st rfl hH
  exact ⟨H, .inl ⟨ht, p, st, l, s, hS, hH⟩, h1.symm, h2⟩

def badT : Turn := ⟨false, 9, ⟨#[]⟩, false, ⟨#[]⟩, 0⟩
def nextA (f : Nat → Ins) (cnt : Nat) (y : Nat → Reply) (n : Nat) : Turn := if valid f cnt = false then badT else if 200 < n then badT else if repliesTo y n = false then badT else nextP f cnt y n 2001 0 0 0 []

end Go.Proofs.YtfhdecheaeoopaaDoor.Vp

/-
  spec: the small ones that a step calls.
-/
namespace Go.Proofs.YtfhdecheaeoopaaDoor.Vp
open Go.RowKit

/-- A run of the specification's, its cells in a row. -/
abbrev runV (at_ : Int) (sv : Value) (st lk : Int) (ov : Bool) (c : Int) (x : ByteArray) (ask : Bool) (nm : ByteArray) (wt : Bool) : Value :=
  .agg #[.int .i64 at_, sv, .int .i64 st, .int .i64 lk, .bool ov, .int .i64 c, .string x, .bool ask, .string nm, .bool wt]
theorem ten_set {B g : Nat} {u w : World} (h : Below B u w) (hg : B ≤ g) (v0 v1 v2 v3 v4 v5 v6 v7 v8 v9 : Value) : Below B u ((((((((((w.setCell ⟨g, 0, none⟩ v0).setCell ⟨g, 1, none⟩ v1).setCell ⟨g, 2, none⟩ v2).setCell ⟨g, 3, none⟩ v3).setCell ⟨g, 4, none⟩ v4).setCell ⟨g, 5, none⟩ v5).setCell ⟨g, 6, none⟩ v6).setCell ⟨g, 7, none⟩ v7).setCell ⟨g, 8, none⟩ v8).setCell ⟨g, 9, none⟩ v9) :=
  (((((((((h.setCell hg v0).setCell hg v1).setCell hg v2).setCell hg v3).setCell hg v4).setCell hg v5).setCell hg v6).setCell hg v7).setCell hg v8).setCell hg v9

set_option maxHeartbeats 1000000 in
theorem l1End_any (at_ : Int) (a : Option Addr) (n cap : Nat) (st lk : Int) (ov : Bool) (c0 : Int) (x0 : ByteArray) (ask : Bool) (nm : ByteArray) (wt : Bool) (c : Int) (x : ByteArray) (w : World) :
    Calls Tryd.prog 28 #[runV at_ (.slice a n cap) st lk ov c0 x0 ask nm wt, .int .i64 c, .string x] w fun e w' => e = .returned (runV at_ (.slice a n cap) st lk true c x ask nm wt) ∧ Below w.heap.size w w' := by
  go_enter Tryd.func28, Tryd.ntmps28
  go_wp2
  refine bodyPost_ret (v := runV at_ (.slice a n cap) st lk true c x ask nm wt) (by simp [results, Tryd.results28, go_sem]) rfl ⟨rfl, ((Below.refl _ _).alloc (Nat.le_refl _) _).alloc (by simp) _⟩

set_option maxHeartbeats 1000000 in
theorem l1Takes_any (op : Nat) (w : World) (h1 : 1 ≤ op) (h15 : op ≤ 15) :
    Calls Tryd.prog 29 #[.int .i64 op] w fun e w' => e = .returned (.tuple #[.int .i64 (takesOf op), .int .i64 (putsOf op)]) ∧ w' = w := by
  rcases (show op = 1 ∨ op = 2 ∨ op = 3 ∨ op = 4 ∨ op = 5 ∨ op = 6 ∨ op = 7 ∨ op = 8 ∨ op = 9 ∨ op = 10 ∨ op = 11 ∨ op = 12 ∨ op = 13 ∨ op = 14 ∨ op = 15 by omega) with rfl | rfl | rfl | rfl | rfl | rfl | rfl | rfl | rfl | rfl | rfl | rfl | rfl | rfl | rfl
  all_goals
    go_enter Tryd.func29, Tryd.ntmps29
    go_wp2
    refine bodyPost_ret (v := .tuple #[.int .i64 (takesOf _), .int .i64 (putsOf _)]) (by simp [results, Tryd.results29, go_sem, takesOf, putsOf]) rfl ⟨rfl, rfl⟩

def plainL (op n : Nat) (t a b : ByteArray) : List ByteArray :=
  match op with
  | 1 => [t]
  | 2 => [b ++ a]
  | 3 => [if n < a.size then a.extract 0 n else a]
  | 4 => [if n < a.size then a.extract n a.size else ⟨#[]⟩]
  | 5 => [wordT a n]
  | 6 => [flagT (a.toList == b.toList)]
  | 7 => [a, a]
  | 8 => [a, b]
  | _ => []

theorem row1 (w : World) (x : ByteArray) (g : Nat) (hg : g = w.heap.size) : RowStr (w.alloc (.cells #[.string x] 9)) g 0 1 (fun i => [x].getD i ⟨#[]⟩) := by
  subst hg
  exact ⟨by simp, fun i hi => by obtain rfl : i = 0 := by omega
                                 simp⟩
theorem row2 (w : World) (x y : ByteArray) (g : Nat) (hg : g = w.heap.size) : RowStr (w.alloc (.cells #[.string x, .string y] 9)) g 0 2 (fun i => [x, y].getD i ⟨#[]⟩) := by
  subst hg
  exact ⟨by simp, fun i hi => by rcases (show i = 0 ∨ i = 1 by omega) with rfl | rfl <;> simp⟩

set_option maxHeartbeats 4000000 in
theorem l1Plain_any (op n : Nat) (t a b : ByteArray) (w : World) (h1 : 1 ≤ op) (h8 : op ≤ 8) (ha : a.size ≤ 2000) (hb : b.size ≤ 2000) (hn : n ≤ 2000) :
    Calls Tryd.prog 31 #[.agg #[.int .i64 op, .string t, .int .i64 n], .string a, .string b] w fun e w' => ∃ g, e = .returned (.slice (some ⟨g, 0, none⟩) (plainL op n t a b).length (plainL op n t a b).length) ∧ RowStr w' g 0 (plainL op n t a b).length (fun i => (plainL op n t a b).getD i ⟨#[]⟩) ∧ w.heap.size ≤ g ∧ Below w.heap.size w w' := by
  have A0 := hide ((Below.refl w.heap.size w).alloc (Nat.le_refl _) (.cells #[.int .i64 op, .string t, .int .i64 n] 67))
  rcases (show op = 1 ∨ op = 2 ∨ op = 3 ∨ op = 4 ∨ op = 5 ∨ op = 6 ∨ op = 7 ∨ op = 8 by omega) with rfl | rfl | rfl | rfl | rfl | rfl | rfl | rfl
  · go_enter Tryd.func31, Tryd.ntmps31
    go_wp2
    go_ret
    exact ⟨_, rfl, row1 _ t _ (by simp), by simp, A0.out.alloc (by simp) _⟩
  · go_enter Tryd.func31, Tryd.ntmps31
    go_wp2
    go_ret
    exact ⟨_, rfl, row1 _ (b ++ a) _ (by simp), by simp, A0.out.alloc (by simp) _⟩
  · by_cases h : (n : Int) < a.size
    · have e : plainL 3 n t a b = [a.extract 0 n] := by simp [plainL]; omega
      rw [e]
      clear e
      go_enter Tryd.func31, Tryd.ntmps31
      go_wp2
      go_ret
      exact ⟨_, rfl, row1 _ _ _ (by simp), by simp, A0.out.alloc (by simp) _⟩
    · have e : plainL 3 n t a b = [a] := by simp [plainL]; omega
      rw [e]
      clear e
      go_enter Tryd.func31, Tryd.ntmps31
      go_wp2
      go_ret
      exact ⟨_, rfl, row1 _ _ _ (by simp), by simp, A0.out.alloc (by simp) _⟩
  · by_cases h : (n : Int) < a.size
    · have e : plainL 4 n t a b = [a.extract n a.size] := by simp [plainL]; omega
      rw [e]
      clear e
      go_enter Tryd.func31, Tryd.ntmps31
      go_wp2
      go_ret
      exact ⟨_, rfl, row1 _ _ _ (by simp), by simp, A0.out.alloc (by simp) _⟩
    · have e : plainL 4 n t a b = [⟨#[]⟩] := by simp [plainL]; omega
      rw [e]
      clear e
      go_enter Tryd.func31, Tryd.ntmps31
      go_wp2
      go_ret
      exact ⟨_, rfl, row1 _ _ _ (by simp), by simp, A0.out.alloc (by simp) _⟩
  · go_enter Tryd.func31, Tryd.ntmps31
    go_wp2_with fail
    refine (l1Piece_any a n _ ha hn).mono ?_
    rintro e w1 ⟨rfl, hB1⟩
    have B1 := hide (A0.out.trans (hB1.mono (by simp)))
    clear hB1
    go_wp2
    go_ret
    exact ⟨_, rfl, row1 _ (wordT a n) _ rfl, B1.out.size, B1.out.alloc B1.out.size _⟩
  · go_enter Tryd.func31, Tryd.ntmps31
    go_wp2_with fail
    refine (l1Flag_any _ _).mono ?_
    rintro e w1 ⟨rfl, rfl⟩
    go_wp2
    go_ret
    exact ⟨_, rfl, row1 _ (flagT (a.toList == b.toList)) _ (by simp), by simp, A0.out.alloc (by simp) _⟩
  · go_enter Tryd.func31, Tryd.ntmps31
    go_wp2
    go_ret
    exact ⟨_, rfl, row2 _ a a _ (by simp), by simp, A0.out.alloc (by simp) _⟩
  · go_enter Tryd.func31, Tryd.ntmps31
    go_wp2
    go_ret
    exact ⟨_, rfl, row2 _ a b _ (by simp), by simp, A0.out.alloc (by simp) _⟩

end Go.Proofs.YtfhdecheaeoopaaDoor.Vp
