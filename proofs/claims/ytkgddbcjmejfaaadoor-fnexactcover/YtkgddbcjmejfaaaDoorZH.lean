/-
  Put together of: MDeedA, MDeed, MAcc, MAccO, DAccS.
-/
import Derived.Test.YtkgddbcjmejfaaaDoorZG
import Derived.Test.YtkgddbcjmejfaaaDoorZC
import Derived.Test.YtkgddbcjmejfaaaDoorZD

/-
  Marks of deeds and accounts.
-/
namespace Go.Proofs.YtkgddbcjmejfaaaDoor.Vp
open Go.RowKit

/-- The mark of deed i's name. -/
def dAt (a l : Nat → Nat) (k0 : Nat) : Nat → Nat
  | 0 => k0
  | i + 1 => dAt a l k0 i + 4 + a i * 3 + l i * 4
theorem dAt_le {a l : Nat → Nat} {k0 n : Nat} (ha : ∀ i, i < n → a i ≤ 1048576) (hl : ∀ i, i < n → l i ≤ 1048576) : dAt a l k0 n ≤ k0 + n * 7340036 := by
  induction n with
  | zero => simp [dAt]
  | succ j ih =>
    have h1 := ih (fun i hi => ha i (by omega)) (fun i hi => hl i (by omega))
    have h2 := ha j (by omega)
    have h3 := hl j (by omega)
    simp only [dAt]
    omega
theorem dAt_ge {a l : Nat → Nat} {k0 n : Nat} : k0 ≤ dAt a l k0 n := by
  induction n with
  | zero => exact Nat.le_refl _
  | succ j ih =>
    simp only [dAt]
    omega

theorem markInsS_sl (p : Option Addr) (n cap k0 b : Nat) (w : World) (hn : (n : Int) ≤ 1048576) (h1 : 1 ≤ (k0 : Int)) (h2 : (k0 : Int) ≤ 1152921504606846976) (h : Room w p n b (n * 3)) :
    Calls Tryd.prog 50 #[.slice p n cap, .int .i64 k0] w fun e w' => e = .returned (.int .i64 ((k0 + n * 3 : Nat) : Int)) ∧ (n = 0 ∨ Cells w' b 0 (n * 3) (markIns k0)) ∧ Touch (fun x => n ≠ 0 ∧ x = b) w w' := by
  by_cases hz : n = 0
  · subst hz
    exact (markInsS_nil p cap k0 w).mono fun e w' ⟨a, b⟩ => ⟨by simpa using a, .inl rfl, by rw [b]; exact Touch.refl _ _⟩
  · obtain ⟨rfl, G, hG⟩ := h.resolve_left hz
    exact (markInsS_row b 0 n cap k0 G w hn h1 h2 hG).mono fun e w' ⟨x, y, z⟩ => ⟨x, .inr y, Touch.of_within z ⟨hz, rfl⟩⟩
theorem markLinkS_sl (p : Option Addr) (n cap k0 b : Nat) (w : World) (hn : (n : Int) ≤ 1048576) (h1 : 1 ≤ (k0 : Int)) (h2 : (k0 : Int) ≤ 1152921504606846976) (h : Room w p n b (n * 4)) :
    Calls Tryd.prog 51 #[.slice p n cap, .int .i64 k0] w fun e w' => e = .returned (.int .i64 ((k0 + n * 4 : Nat) : Int)) ∧ (n = 0 ∨ Cells w' b 0 (n * 4) (markLink k0)) ∧ Touch (fun x => n ≠ 0 ∧ x = b) w w' := by
  by_cases hz : n = 0
  · subst hz
    exact (markLinkS_nil p cap k0 w).mono fun e w' ⟨a, b⟩ => ⟨by simpa using a, .inl rfl, by rw [b]; exact Touch.refl _ _⟩
  · obtain ⟨rfl, G, hG⟩ := h.resolve_left hz
    exact (markLinkS_row b 0 n cap k0 G w hn h1 h2 hG).mono fun e w' ⟨x, y, z⟩ => ⟨x, .inr y, Touch.of_within z ⟨hz, rfl⟩⟩

/-- What is fixed of n deeds in block T: their rows of instructions (A, a) and of links (L, l); all apart. -/
structure DPlan (T n : Nat) (A L a l : Nat → Nat) : Prop where
  fit : ∀ i, i < n → a i ≤ 1048576 ∧ l i ≤ 1048576
  apart : ∀ i, i < n → (a i ≠ 0 → A i ≠ T) ∧ (l i ≠ 0 → L i ≠ T)
  each : ∀ i j, i < n → j < n → i ≠ j → (a i ≠ 0 → a j ≠ 0 → A i ≠ A j) ∧ (l i ≠ 0 → l j ≠ 0 → L i ≠ L j)
  cross : ∀ i j, i < n → j < n → a i ≠ 0 → l j ≠ 0 → A i ≠ L j
/-- The blocks of the plan. -/
def DBlk (T n : Nat) (A L a l : Nat → Nat) (x : Nat) : Prop := x = T ∨ ∃ i, i < n ∧ ((a i ≠ 0 ∧ x = A i) ∨ (l i ≠ 0 ∧ x = L i))
/-- Cells of n deeds in block T. -/
structure DCells (w : World) (T n : Nat) (A L a l : Nat → Nat) : Prop where
  row : ∃ F, Cells w T 0 (n * 6) F ∧ ∀ i, i < n → (∃ p cap, F (i * 6 + 4) = .slice p (a i) cap ∧ (a i ≠ 0 → p = some ⟨A i, 0, none⟩)) ∧ ∃ p cap, F (i * 6 + 5) = .slice p (l i) cap ∧ (l i ≠ 0 → p = some ⟨L i, 0, none⟩)
  act : ∀ i, i < n → a i ≠ 0 → ∃ G, Cells w (A i) 0 (a i * 3) G
  lnk : ∀ i, i < n → l i ≠ 0 → ∃ G, Cells w (L i) 0 (l i * 4) G
/-- .. marked from k0 on. -/
structure DMarked (w : World) (T n : Nat) (A L a l : Nat → Nat) (k0 : Nat) : Prop where
  row : ∃ F, Cells w T 0 (n * 6) F ∧ ∀ i, i < n → F (i * 6) = .string (mkT ((dAt a l k0 i : Nat) : Int)) ∧ F (i * 6 + 1) = .int .i64 ((dAt a l k0 i + 1 : Nat) : Int) ∧ F (i * 6 + 2) = .int .i64 ((dAt a l k0 i + 2 : Nat) : Int) ∧ F (i * 6 + 3) = .string (mkT ((dAt a l k0 i + 3 : Nat) : Int)) ∧ (∃ p cap, F (i * 6 + 4) = .slice p (a i) cap ∧ (a i ≠ 0 → p = some ⟨A i, 0, none⟩)) ∧ ∃ p cap, F (i * 6 + 5) = .slice p (l i) cap ∧ (l i ≠ 0 → p = some ⟨L i, 0, none⟩)
  act : ∀ i, i < n → a i ≠ 0 → Cells w (A i) 0 (a i * 3) (markIns (dAt a l k0 i + 4))
  lnk : ∀ i, i < n → l i ≠ 0 → Cells w (L i) 0 (l i * 4) (markLink (dAt a l k0 i + 4 + a i * 3))
theorem DMarked.below {w w' : World} {T n k0 Z : Nat} {A L a l : Nat → Nat} (h : DMarked w T n A L a l k0) (hb : Below Z w w') (hZ : w.heap.size ≤ Z) : DMarked w' T n A L a l k0 := by
  obtain ⟨⟨F, hF, h1⟩, h2, h3⟩ := h
  exact ⟨⟨F, hF.below hb (Nat.lt_of_lt_of_le hF.1 hZ), h1⟩, fun i hi hz => (h2 i hi hz).below hb (Nat.lt_of_lt_of_le (h2 i hi hz).1 hZ), fun i hi hz => (h3 i hi hz).below hb (Nat.lt_of_lt_of_le (h3 i hi hz).1 hZ)⟩
theorem DCells.below {w w' : World} {T n Z : Nat} {A L a l : Nat → Nat} (h : DCells w T n A L a l) (hb : Below Z w w') (hZ : w.heap.size ≤ Z) : DCells w' T n A L a l := by
  obtain ⟨⟨F, hF, h1⟩, h2, h3⟩ := h
  refine ⟨⟨F, hF.below hb (Nat.lt_of_lt_of_le hF.1 hZ), h1⟩, fun i hi hz => ?_, fun i hi hz => ?_⟩
  · obtain ⟨G, hG⟩ := h2 i hi hz
    exact ⟨G, hG.below hb (Nat.lt_of_lt_of_le hG.1 hZ)⟩
  · obtain ⟨G, hG⟩ := h3 i hi hz
    exact ⟨G, hG.below hb (Nat.lt_of_lt_of_le hG.1 hZ)⟩

/-- What stands behind k of n deeds; the rows of instructions from ka on and those of links from kl on are still as they were. -/
structure DPart (w : World) (T n k ka kl k0 : Nat) (A L a l : Nat → Nat) (F : Nat → Value) : Prop where
  row : Cells w T 0 (n * 6) F
  sl : ∀ i, i < n → (∃ p cap, F (i * 6 + 4) = .slice p (a i) cap ∧ (a i ≠ 0 → p = some ⟨A i, 0, none⟩)) ∧ ∃ p cap, F (i * 6 + 5) = .slice p (l i) cap ∧ (l i ≠ 0 → p = some ⟨L i, 0, none⟩)
  mrk : ∀ i, i < k → F (i * 6) = .string (mkT ((dAt a l k0 i : Nat) : Int)) ∧ F (i * 6 + 1) = .int .i64 ((dAt a l k0 i + 1 : Nat) : Int) ∧ F (i * 6 + 2) = .int .i64 ((dAt a l k0 i + 2 : Nat) : Int) ∧ F (i * 6 + 3) = .string (mkT ((dAt a l k0 i + 3 : Nat) : Int))
  actM : ∀ i, i < k → a i ≠ 0 → Cells w (A i) 0 (a i * 3) (markIns (dAt a l k0 i + 4))
  lnkM : ∀ i, i < k → l i ≠ 0 → Cells w (L i) 0 (l i * 4) (markLink (dAt a l k0 i + 4 + a i * 3))
  act : ∀ i, ka ≤ i → i < n → a i ≠ 0 → ∃ G, Cells w (A i) 0 (a i * 3) G
  lnk : ∀ i, kl ≤ i → i < n → l i ≠ 0 → ∃ G, Cells w (L i) 0 (l i * 4) G
theorem DPart.move {w w' : World} {T n k ka kl k0 : Nat} {A L a l : Nat → Nat} {F F' : Nat → Value} (h : DPart w T n k ka kl k0 A L a l F) (hr : Cells w' T 0 (n * 6) F') (hs : ∀ i, i < n → F' (i * 6 + 4) = F (i * 6 + 4) ∧ F' (i * 6 + 5) = F (i * 6 + 5)) (hm : ∀ i, i < k → ∀ j, j < 4 → F' (i * 6 + j) = F (i * 6 + j)) {Q : Nat → Prop} (ht : Touch Q w w') (hA : ∀ i, i < n → (i < k ∨ ka ≤ i) → a i ≠ 0 → ¬ Q (A i)) (hL : ∀ i, i < n → (i < k ∨ kl ≤ i) → l i ≠ 0 → ¬ Q (L i)) (hk : k ≤ n) : DPart w' T n k ka kl k0 A L a l F' := by
  refine ⟨hr, fun i hi => ?_, fun i hi => ?_, fun i hi hz => (h.actM i hi hz).touch ht (hA i (by omega) (.inl hi) hz), fun i hi hz => (h.lnkM i hi hz).touch ht (hL i (by omega) (.inl hi) hz), fun i h1 h2 hz => ?_, fun i h1 h2 hz => ?_⟩
  · rw [(hs i hi).1, (hs i hi).2]
    exact h.sl i hi
  · have e0 : F' (i * 6) = F (i * 6) := hm i hi 0 (by omega)
    rw [e0, hm i hi 1 (by omega), hm i hi 2 (by omega), hm i hi 3 (by omega)]
    exact h.mrk i hi
  · obtain ⟨G, hG⟩ := h.act i h1 h2 hz
    exact ⟨G, hG.touch ht (hA i h2 (.inr h1) hz)⟩
  · obtain ⟨G, hG⟩ := h.lnk i h1 h2 hz
    exact ⟨G, hG.touch ht (hL i h2 (.inr h1) hz)⟩
theorem DPart.below {w w' : World} {T n k ka kl k0 Z : Nat} {A L a l : Nat → Nat} {F : Nat → Value} (h : DPart w T n k ka kl k0 A L a l F) (hb : Below Z w w') (hZ : w.heap.size ≤ Z) (hk : k ≤ n) : DPart w' T n k ka kl k0 A L a l F :=
  h.move (h.row.below hb (Nat.lt_of_lt_of_le h.row.1 hZ)) (fun _ _ => ⟨rfl, rfl⟩) (fun _ _ _ _ => rfl) (Q := fun _ => False) (Touch.of_below hb hZ) (fun _ _ _ _ h => h) (fun _ _ _ _ h => h) hk
/-- A mark in cell j of deed k. -/
theorem DPart.setCell {w : World} {T n k ka kl k0 : Nat} {A L a l : Nat → Nat} {F : Nat → Value} (h : DPart w T n k ka kl k0 A L a l F) (hP : DPlan T n A L a l) (hk : k < n) (x j : Nat) (hx : x = 0 + (k * 6 + j)) (hj : j < 4) (v : Value) : DPart (w.setCell ⟨T, x, none⟩ v) T n k ka kl k0 A L a l (fun y => if y = k * 6 + j then v else F y) := by
  have hr := h.row.setAt x (k * 6 + j) hx (by omega) v
  refine h.move hr (fun i hi => ⟨?_, ?_⟩) (fun i hi y hy => ?_) (Q := fun y => y = T) ((Touch.refl (fun y => y = T) w).setCell (p := ⟨T, x, none⟩) rfl v) (fun i hi _ hz => (hP.apart i hi).1 hz) (fun i hi _ hz => (hP.apart i hi).2 hz) (by omega)
  · exact if_neg (by omega)
  · exact if_neg (by omega)
  · exact if_neg (by omega)
/-- The row of instructions of deed k is marked. -/
theorem DPart.acted {w w' : World} {T n k k0 : Nat} {A L a l : Nat → Nat} {F : Nat → Value} (h : DPart w T n k k k k0 A L a l F) (hP : DPlan T n A L a l) (hk : k < n) (ht : Touch (fun x => a k ≠ 0 ∧ x = A k) w w') : DPart w' T n k (k + 1) k k0 A L a l F := by
  have h' : DPart w T n k (k + 1) k k0 A L a l F := ⟨h.row, h.sl, h.mrk, h.actM, h.lnkM, fun i hi => h.act i (by omega), h.lnk⟩
  refine h'.move (h.row.touch ht fun e => (hP.apart k hk).1 e.1 e.2.symm) (fun _ _ => ⟨rfl, rfl⟩) (fun _ _ _ _ => rfl) ht (fun i hi h1 hz e => ?_) (fun i hi h1 hz e => hP.cross k i hk hi e.1 hz e.2.symm) (by omega)
  exact (hP.each i k hi hk (by omega)).1 hz e.1 e.2
/-- .. and its links. -/
theorem DPart.linked {w w' : World} {T n k k0 q : Nat} {A L a l : Nat → Nat} {F : Nat → Value} (h : DPart w T n k (k + 1) k k0 A L a l F) (hP : DPlan T n A L a l) (hk : k < n) (ht : Touch (fun x => l k ≠ 0 ∧ x = L k) w w') (hq : q = dAt a l k0 k)
    (hA : a k = 0 ∨ Cells w (A k) 0 (a k * 3) (markIns (q + 4))) (hL : l k = 0 ∨ Cells w' (L k) 0 (l k * 4) (markLink (q + 4 + a k * 3)))
    (e0 : F (k * 6) = .string (mkT (q : Int))) (e1 : F (k * 6 + 1) = .int .i64 ((q : Int) + 1)) (e2 : F (k * 6 + 2) = .int .i64 ((q : Int) + 1 + 1)) (e3 : F (k * 6 + 3) = .string (mkT ((q : Int) + 1 + 1 + 1))) : DPart w' T n (k + 1) (k + 1) (k + 1) k0 A L a l F := by
  have h' : DPart w T n k (k + 1) (k + 1) k0 A L a l F := ⟨h.row, h.sl, h.mrk, h.actM, h.lnkM, h.act, fun i hi => h.lnk i (by omega)⟩
  have h2 : DPart w' T n k (k + 1) (k + 1) k0 A L a l F := by
    refine h'.move (h.row.touch ht fun e => (hP.apart k hk).2 e.1 e.2.symm) (fun _ _ => ⟨rfl, rfl⟩) (fun _ _ _ _ => rfl) ht (fun i hi h1 hz e => hP.cross i k hi hk hz e.1 e.2) (fun i hi h1 hz e => ?_) (by omega)
    exact (hP.each i k hi hk (by omega)).2 hz e.1 e.2
  subst hq
  refine ⟨h2.row, h2.sl, fun i hi => ?_, fun i hi hz => ?_, fun i hi hz => ?_, h2.act, h2.lnk⟩
  · by_cases e : i = k
    · subst e
      exact ⟨e0, e1, e2, e3⟩
    · exact h2.mrk i (by omega)
  · by_cases e : i = k
    · subst e
      exact (hA.resolve_left hz).touch ht fun e => hP.cross i i hk hk hz e.1 e.2
    · exact h2.actM i (by omega) hz
  · by_cases e : i = k
    · subst e
      exact hL.resolve_left hz
    · exact h2.lnkM i (by omega) hz

end Go.Proofs.YtkgddbcjmejfaaaDoor.Vp

/-
  Marks of deeds and accounts: the walk.
-/
namespace Go.Proofs.YtkgddbcjmejfaaaDoor.Vp
open Go.RowKit

set_option maxRecDepth 100000 in
set_option maxHeartbeats 8000000 in
theorem markDeedS_row (T n cap k0 : Nat) (A L a l : Nat → Nat) (w : World) (hn : (n : Int) ≤ 1048576) (h1 : 1 ≤ (k0 : Int)) (h2 : (k0 : Int) ≤ 1125899906842624) (hP : DPlan T n A L a l) (hC : DCells w T n A L a l) :
    Calls Tryd.prog 37 #[.slice (some ⟨T, 0, none⟩) n cap, .int .i64 k0] w fun e w' => e = .returned (.int .i64 ((dAt a l k0 n : Nat) : Int)) ∧ DMarked w' T n A L a l k0 ∧ Touch (DBlk T n A L a l) w w' := by
  have HC := hide hC
  have HP := hide hP
  clear hC hP
  go_enter Tryd.func37, Tryd.ntmps37
  go_wp2
  go_loopw [1, 5] (fun v i wr => ∃ (k q : Nat) (F : Nat → Value), k ≤ n ∧ Hid (q = dAt a l k0 k) ∧ i = .int .i64 k ∧ v = .int .i64 q ∧ Hid (DPart wr T n k k k k0 A L a l F) ∧ Hid (Touch (DBlk T n A L a l) w wr)) (fun _ i _ => n - (intOf i).toNat)
  case atStart =>
    obtain ⟨⟨F, hF, hs⟩, ha, hl⟩ := HC.out
    exact ⟨0, k0, F, by omega, rfl, rfl, rfl, ⟨hF, hs, fun i hi => absurd hi (Nat.not_lt_zero _), fun i hi => absurd hi (Nat.not_lt_zero _), fun i hi => absurd hi (Nat.not_lt_zero _), fun i _ hi => ha i hi, fun i _ hi => hl i hi⟩, Touch.refl _ _⟩
  case round =>
    obtain ⟨k, q, F, hk, HQ, rfl, rfl, HD, HW⟩ := hrel
    have hq1 : 1 ≤ (q : Int) := by have := HQ.out; have := dAt_ge (a := a) (l := l) (k0 := k0) (n := k); omega
    have hq2 : (q : Int) ≤ 1152921504600000000 := by have := HQ.out; have := dAt_le (a := a) (l := l) (k0 := k0) (n := k) (fun i hi => (HP.out.fit i (by omega)).1) (fun i hi => (HP.out.fit i (by omega)).2); omega
    by_cases hlt : k < n
    · have hkk : k * 6 + 6 ≤ n * 6 := by omega
      obtain ⟨hak, hlk⟩ := HP.out.fit k hlt
      obtain ⟨⟨pa, ca, hpa, ea⟩, pl, cl, hpl, el⟩ := HD.out.sl k hlt
      have EA := hide ea
      have EL := hide el
      clear ea el
      obtain ⟨c0, z0⟩ := HD.out.row.at (k * 6) (k * 6) (by omega) (by omega)
      go_wp2_with fail
      refine (markText_int (q : Int) _ (by omega) (by omega)).mono ?_
      rintro e w1 ⟨rfl, hB1⟩
      have D1 := hide (HD.out.below hB1 (Nat.le_refl _) hk)
      have W1 := hide (HW.out.below hB1 (Nat.le_refl _))
      clear hB1 c0 z0
      obtain ⟨c0, z0⟩ := D1.out.row.at (k * 6) (k * 6) (by omega) (by omega)
      obtain ⟨c1, z1⟩ := D1.out.row.at (k * 6 + 1) (k * 6 + 1) (by omega) (by omega)
      obtain ⟨c2, z2⟩ := D1.out.row.at (k * 6 + 2) (k * 6 + 2) (by omega) (by omega)
      obtain ⟨c3, z3⟩ := D1.out.row.at (k * 6 + 3) (k * 6 + 3) (by omega) (by omega)
      have S1 := hide (((D1.out.setCell HP.out hlt (k * 6) 0 (by omega) (by omega) (.string (mkT (q : Int)))).setCell HP.out hlt (k * 6 + 1) 1 (by omega) (by omega) (.int .i64 ((q : Int) + 1))).setCell HP.out hlt (k * 6 + 2) 2 (by omega) (by omega) (.int .i64 ((q : Int) + 1 + 1)))
      have X1 := hide (((W1.out.setCell (p := ⟨T, k * 6, none⟩) (.inl rfl) (.string (mkT (q : Int)))).setCell (p := ⟨T, k * 6 + 1, none⟩) (.inl rfl) (.int .i64 ((q : Int) + 1))).setCell (p := ⟨T, k * 6 + 2, none⟩) (.inl rfl) (.int .i64 ((q : Int) + 1 + 1)))
      go_wp2_with fail
      generalize ((w1.setCell ⟨T, k * 6, none⟩ (.string (mkT (q : Int)))).setCell ⟨T, k * 6 + 1, none⟩ (.int .i64 ((q : Int) + 1))).setCell ⟨T, k * 6 + 2, none⟩ (.int .i64 ((q : Int) + 1 + 1)) = v1 at S1 X1 ⊢
      clear D1 W1 c0 z0 c1 z1 c2 z2 c3 z3
      refine (markText_int ((q : Int) + 1 + 1 + 1) _ (by omega) (by omega)).mono ?_
      rintro e w2 ⟨rfl, hB2⟩
      have D2 := hide (S1.out.below hB2 (Nat.le_refl _) hk)
      have W2 := hide (X1.out.below hB2 (Nat.le_refl _))
      clear hB2 S1 X1
      obtain ⟨c3, z3⟩ := D2.out.row.at (k * 6 + 3) (k * 6 + 3) (by omega) (by omega)
      have S2 := hide (D2.out.setCell HP.out hlt (k * 6 + 3) 3 (by omega) (by omega) (.string (mkT ((q : Int) + 1 + 1 + 1))))
      have X2 := hide (W2.out.setCell (p := ⟨T, k * 6 + 3, none⟩) (.inl rfl) (.string (mkT ((q : Int) + 1 + 1 + 1))))
      have c4 : (w2.setCell ⟨T, k * 6 + 3, none⟩ (.string (mkT ((q : Int) + 1 + 1 + 1)))).cell? ⟨T, k * 6 + 4, none⟩ = some (.slice pa (a k) ca) := by
        have := (S2.out.row.at (k * 6 + 4) (k * 6 + 4) (by omega) (by omega)).1
        rw [if_neg (by omega), if_neg (by omega), if_neg (by omega), if_neg (by omega), hpa] at this
        exact this
      go_wp2_with fail
      generalize w2.setCell ⟨T, k * 6 + 3, none⟩ (.string (mkT ((q : Int) + 1 + 1 + 1))) = v2 at S2 X2 c4 ⊢
      clear D2 W2 c3 z3
      first | rw [show (q : Int) + 1 + 1 + 1 + 1 = ((q + 4 : Nat) : Int) by omega] | rw [show (q : Int) + 4 = ((q + 4 : Nat) : Int) by omega]
      refine (markInsS_sl pa (a k) ca (q + 4) (A k) _ (by omega) (by omega) (by omega) (by by_cases hz : a k = 0; exact .inl hz; exact .inr ⟨EA.out hz, S2.out.act k (Nat.le_refl _) hlt hz⟩)).mono ?_
      rintro e w3 ⟨rfl, hM3, hT3⟩
      have D3 := hide (S2.out.acted HP.out hlt hT3)
      have W3 := hide (X2.out.trans (hT3.mono fun x hx => .inr ⟨k, hlt, .inl hx⟩))
      have M3 := hide hM3
      clear hM3 hT3 S2 X2 c4
      have c5 : w3.cell? ⟨T, k * 6 + 5, none⟩ = some (.slice pl (l k) cl) := by
        have := (D3.out.row.at (k * 6 + 5) (k * 6 + 5) (by omega) (by omega)).1
        rw [if_neg (by omega), if_neg (by omega), if_neg (by omega), if_neg (by omega), hpl] at this
        exact this
      go_wp2_with fail
      refine (markLinkS_sl pl (l k) cl (q + 4 + a k * 3) (L k) _ (by omega) (by omega) (by omega) (by by_cases hz : l k = 0; exact .inl hz; exact .inr ⟨EL.out hz, D3.out.lnk k (Nat.le_refl _) hlt hz⟩)).mono ?_
      rintro e w4 ⟨rfl, hM4, hT4⟩
      have D4 := hide (D3.out.linked HP.out hlt hT4 HQ.out M3.out hM4 (by rw [if_neg (by omega), if_neg (by omega), if_neg (by omega)]; exact if_pos rfl) (by rw [if_neg (by omega), if_neg (by omega), if_pos rfl]) (by rw [if_neg (by omega), if_pos rfl]) (by rw [if_pos rfl]))
      have W4 := hide (W3.out.trans (hT4.mono fun x hx => .inr ⟨k, hlt, .inr hx⟩))
      have HE : Hid (q + 4 + a k * 3 + l k * 4 = dAt a l k0 (k + 1)) := by show _ = dAt a l k0 k + 4 + a k * 3 + l k * 4; rw [HQ.out]
      clear hM4 hT4 D3 W3 M3 c5 hpa hpl
      go_wp2
      exact ⟨⟨k + 1, q + 4 + a k * 3 + l k * 4, _, by omega, HE.out, by go_num, rfl, D4.out, W4.out⟩, by simp [intOf]; omega⟩
    · have e : k = n := by omega
      subst e
      have HV : Hid ((q : Int) = ((dAt a l k0 k : Nat) : Int)) := by show (q : Int) = _; rw [HQ.out]
      go_wp2
      go_ret
      exact ⟨by show Ending.returned (.int .i64 (q : Int)) = _; rw [HV.out], ⟨⟨F, HD.out.row, fun i hi => ⟨(HD.out.mrk i hi).1, (HD.out.mrk i hi).2.1, (HD.out.mrk i hi).2.2.1, (HD.out.mrk i hi).2.2.2, (HD.out.sl i hi).1, (HD.out.sl i hi).2⟩⟩, HD.out.actM, HD.out.lnkM⟩, HW.out⟩

end Go.Proofs.YtkgddbcjmejfaaaDoor.Vp

/-
  Marks of accounts.
-/
namespace Go.Proofs.YtkgddbcjmejfaaaDoor.Vp
open Go.RowKit

set_option maxRecDepth 100000 in
set_option maxHeartbeats 4000000 in
theorem markAccount_row (T n cap k0 : Nat) (A L a l : Nat → Nat) (w : World) (hn : (n : Int) ≤ 1048576) (h1 : 1 ≤ (k0 : Int)) (h2 : (k0 : Int) ≤ 1125899906842624) (hP : DPlan T n A L a l) (hC : DCells w T n A L a l) :
    Calls Tryd.prog 13 #[.agg #[.slice (some ⟨T, 0, none⟩) n cap], .int .i64 k0] w fun e w' => e = .returned (.int .i64 ((dAt a l k0 n : Nat) : Int)) ∧ DMarked w' T n A L a l k0 ∧ Touch (DBlk T n A L a l) w w' := by
  have A0 := hide ((Below.refl w.heap.size w).alloc (Nat.le_refl _) (.cells #[.slice (some ⟨T, 0, none⟩) n cap] 30))
  have HC := hide (hC.below A0.out (Nat.le_refl _))
  have HP := hide hP
  clear hC hP
  go_enter Tryd.func13, Tryd.ntmps13
  go_wp2_with fail
  refine (markDeedS_row T n cap k0 A L a l _ hn h1 h2 HP.out HC.out).mono ?_
  rintro e w1 ⟨rfl, hM, hT⟩
  have M1 := hide hM
  have T1 := hide ((Touch.of_below A0.out (Nat.le_refl _)).trans hT)
  clear hM hT
  go_wp2
  go_ret
  exact ⟨rfl, M1.out, T1.out⟩

end Go.Proofs.YtkgddbcjmejfaaaDoor.Vp

/-
  The marks of a copy.
-/
namespace Go.Proofs.YtkgddbcjmejfaaaDoor.Vp
open Go.RowKit

theorem OwnDeed2.plan {w : World} {g n N : Nat} {f : Nat → Deed} (h : OwnDeed2 w g n n N f) (hf : ∀ i, i < n → FitsDeed (f i)) : ∃ A L : Nat → Nat, DPlan g n A L (fun i => (f i).actN) (fun i => (f i).linksN) ∧ DCells w g n A L (fun i => (f i).actN) (fun i => (f i).linksN) ∧ ∀ x, DBlk g n A L (fun i => (f i).actN) (fun i => (f i).linksN) x → g ≤ x ∧ (x = g ∨ x < N) := by
  obtain ⟨F, G0, G1, hr, ha, hN, hF⟩ := h
  refine ⟨G0, G1, ⟨fun i hi => hf i hi, fun i hi => ⟨fun _ => ?_, fun _ => ?_⟩, fun i j hi hj hij => ⟨fun _ _ => ?_, fun _ _ => ?_⟩, fun i j hi hj _ _ => ?_⟩, ⟨⟨F, cells_of_row hr, fun i hi => ?_⟩, fun i hi _ => ?_, fun i hi _ => ?_⟩, fun x hx => ?_⟩
  · have := (hF i hi).2.2.2.2.1.2.2; omega
  · have := (hF i hi).2.2.2.2.2.2.2; omega
  · rcases Nat.lt_or_gt_of_ne hij with h | h
    · have := (ha i j h hj).1; omega
    · have := (ha j i h hi).1; omega
  · rcases Nat.lt_or_gt_of_ne hij with h | h
    · have := (ha i j h hj).2; omega
    · have := (ha j i h hi).2; omega
  · exact ins_link (hF i hi).2.2.2.2.1.2.1 (hF j hj).2.2.2.2.2.2.1
  · exact ⟨⟨_, _, (hF i hi).2.2.2.2.1.1, fun _ => rfl⟩, ⟨_, _, (hF i hi).2.2.2.2.2.1, fun _ => rfl⟩⟩
  · exact (hF i hi).2.2.2.2.1.2.1.cells
  · exact (hF i hi).2.2.2.2.2.2.1.cells
  · rcases hx with rfl | ⟨i, hi, ⟨_, rfl⟩ | ⟨_, rfl⟩⟩
    · exact ⟨Nat.le_refl _, .inl rfl⟩
    · have h1 := (hF i hi).2.2.2.2.1.2.2
      exact ⟨by omega, .inr (hN i hi).1⟩
    · have h1 := (hF i hi).2.2.2.2.2.2.2
      exact ⟨by omega, .inr (hN i hi).2⟩
/-- An account that was copied is marked: no block is touched that was there before or is there behind. -/
theorem markAccount_own (g n N : Nat) (f : Nat → Deed) (w : World) (hn : (n : Int) ≤ 1048576) (hf : ∀ i, i < n → FitsDeed (f i)) (h : OwnDeed2 w g n n N f) (hN : g < N) :
    Calls Tryd.prog 13 #[.agg #[.slice (some ⟨g, 0, none⟩) n n], .int .i64 1] w fun e w' => ∃ q : Nat, e = .returned (.int .i64 q) ∧ Touch (fun x => g ≤ x ∧ x < N) w w' := by
  obtain ⟨A, L, hP, hC, hB⟩ := h.plan hf
  refine (markAccount_row g n n 1 A L _ _ w hn (by omega) (by omega) hP hC).mono ?_
  rintro e w' ⟨rfl, -, hT⟩
  exact ⟨_, rfl, hT.mono fun x hx => ⟨(hB x hx).1, by rcases (hB x hx).2 with h | h <;> omega⟩⟩

end Go.Proofs.YtkgddbcjmejfaaaDoor.Vp

/-
  Data: lists of accounts: sizes, copies, comparisons, marks.
-/
namespace Go.Proofs.YtkgddbcjmejfaaaDoor.Vp
open Go.RowKit

structure Acc where
  n : Nat
  f : Nat → Deed
def SizedAcc (x : Acc) : Prop := (x.n : Int) ≤ 9223372036854775807 ∧ ∀ i, i < x.n → SizedDeed (x.f i)
def FitsAcc (x : Acc) : Prop := x.n ≤ 1048576 ∧ ∀ i, i < x.n → FitsDeed (x.f i)
/-- the deeds of the first k accounts. -/
def sumN (F : Nat → Acc) : Nat → Nat
  | 0 => 0
  | k + 1 => sumN F k + (F k).n

def AtAcc (w : World) (b off i : Nat) (x : Acc) : Prop := ∃ a cap, w.cell? ⟨b, off + i, none⟩ = some (.slice a x.n cap) ∧ SlDeed w a x.n x.f
theorem AtAcc.below {w w' : World} {B b off i : Nat} {x : Acc} (h : AtAcc w b off i x) (hb : Below B w w') (hB : w.heap.size ≤ B) (hl : b < w.heap.size) : AtAcc w' b off i x := by
  obtain ⟨a, cap, s, r⟩ := h
  exact ⟨a, cap, (hb.cell (p := ⟨b, _, none⟩) (Nat.lt_of_lt_of_le hl hB)).trans s, r.below hb hB⟩
def RowAcc (w : World) (b off m : Nat) (F : Nat → Acc) : Prop := b < w.heap.size ∧ ∀ i, i < m → AtAcc w b off i (F i)
theorem RowAcc.below {w w' : World} {B b off m : Nat} {F : Nat → Acc} (h : RowAcc w b off m F) (hb : Below B w w') (hB : w.heap.size ≤ B) : RowAcc w' b off m F :=
  ⟨Nat.lt_of_lt_of_le h.1 hb.size, fun i hi => (h.2 i hi).below hb hB h.1⟩
def SlAcc (w : World) (a : Option Addr) (m : Nat) (F : Nat → Acc) : Prop := m = 0 ∨ ∃ b off, a = some ⟨b, off, none⟩ ∧ RowAcc w b off m F
theorem SlAcc.below {w w' : World} {B : Nat} {a : Option Addr} {m : Nat} {F : Nat → Acc} (h : SlAcc w a m F) (hb : Below B w w') (hB : w.heap.size ≤ B) : SlAcc w' a m F := by
  rcases h with h | ⟨b, off, hv, hr⟩
  · exact .inl h
  · exact .inr ⟨b, off, hv, hr.below hb hB⟩
theorem RowAcc.sl {w : World} {b off m : Nat} {F : Nat → Acc} (h : RowAcc w b off m F) : SlAcc w (some ⟨b, off, none⟩) m F := .inr ⟨b, off, rfl, h⟩

/-! sizes: the number of deeds is taken off -/
set_option maxHeartbeats 1000000 in
theorem szDeedS_rowN (b off n cap : Nat) (f : Nat → Deed) (left : Int) (w : World) (h0 : (n : Int) ≤ left) (h1 : left ≤ 1048576) (hf : RowDeed w b off n f) (hs : ∀ i, i < n → SizedDeed (f i)) :
    Calls Tryd.prog 29 #[.slice (some ⟨b, off, none⟩) n cap, .int .i64 left] w fun e w' => ∃ r : Int, e = .returned (.int .i64 r) ∧ -1 ≤ r ∧ r ≤ left ∧ (0 ≤ r → r + n ≤ left ∧ ∀ i, i < n → FitsDeed (f i)) ∧ Below w.heap.size w w' := by
  have HF := hide hf
  have HS := hide hs
  clear hf hs
  go_enter Tryd.func29, Tryd.ntmps29
  go_wp2
  go_loopw [1, 5] (fun l i wr => ∃ k : Nat, ∃ r : Int, k ≤ n ∧ 0 ≤ r ∧ r + n ≤ left ∧ i = .int .i64 k ∧ l = .int .i64 r ∧ Hid (∀ i, i < k → FitsDeed (f i)) ∧ Below w.heap.size w wr) (fun _ i _ => n - (intOf i).toNat)
  case atStart => exact ⟨0, left - n, by omega, by omega, by omega, rfl, rfl, fun i hi => absurd hi (Nat.not_lt_zero _), Below.refl _ _⟩
  case round =>
    obtain ⟨k, r, hk, hr0, hr1, rfl, rfl, hfit, hB⟩ := hrel
    have HB := hide hB
    have hsz : w.heap.size ≤ wr.heap.size := hB.size
    clear hB
    by_cases hlt : k < n
    · obtain ⟨p0, p1, p2, p3, ⟨a0, cap0, s0, r0⟩, ⟨a1, cap1, s1, r1⟩⟩ := (HF.out.2 k hlt).below HB.out (Nat.le_refl _) HF.out.1
      have HR := hide (show SlIns wr a0 (f k).actN (f k).act ∧ SlLink wr a1 (f k).linksN (f k).links from ⟨r0, r1⟩)
      clear r0 r1
      go_wp2_with fail
      refine (szDeed_any (f k) a0 cap0 a1 cap1 _ _ (HS.out k hlt) HR.out.1 HR.out.2 (by omega) (by omega)).mono ?_
      rintro e w' ⟨r', rfl, hr2, hr3, hr4, hB'⟩
      have HR4 := hide hr4
      have HB' := hide (HB.out.trans (hB'.mono hsz))
      clear hr4 hB'
      go_wp2
      · go_ret
        exact ⟨-1, rfl, by omega, by omega, fun _ => by omega, HB'.out⟩
      · exact ⟨⟨k + 1, r', by omega, by omega, by omega, by go_num, rfl, fun i hi => by
          by_cases e : i = k
          · subst e; exact HR4.out (by omega)
          · exact hfit i (by omega), HB'.out⟩, by simp [intOf]; omega⟩
    · have e : k = n := by omega
      subst e
      go_wp2
      go_ret
      exact ⟨r, rfl, by omega, by omega, fun _ => ⟨by omega, hfit⟩, HB.out⟩
theorem szDeedS_anyN (a : Option Addr) (n cap : Nat) (f : Nat → Deed) (left : Int) (w : World) (h0 : 0 ≤ left) (h1 : left ≤ 1048576) (hn : (n : Int) ≤ 9223372036854775807) (hv : SlDeed w a n f) (hs : ∀ i, i < n → SizedDeed (f i)) :
    Calls Tryd.prog 29 #[.slice a n cap, .int .i64 left] w fun e w' => ∃ r : Int, e = .returned (.int .i64 r) ∧ -1 ≤ r ∧ r ≤ left ∧ (0 ≤ r → r + n ≤ left ∧ ∀ i, i < n → FitsDeed (f i)) ∧ Below w.heap.size w w' := by
  rcases hv with rfl | ⟨b, off, rfl, hr⟩
  · exact (szDeedS_nil a cap left w h0 h1).mono fun e w' ⟨a, b⟩ => ⟨_, a, by omega, by omega, fun _ => ⟨by omega, fun i hi => absurd hi (Nat.not_lt_zero _)⟩, by rw [b]; exact Below.refl _ _⟩
  · by_cases h : (n : Int) ≤ left
    · exact szDeedS_rowN b off n cap f left w h h1 hr hs
    · exact (szDeedS_big _ n cap left w h0 h1 hn (by omega)).mono fun e w' ⟨a, b⟩ => ⟨_, a, by omega, by omega, fun _ => by omega, by rw [b]; exact Below.refl _ _⟩
set_option maxHeartbeats 400000 in
theorem szAccount_anyN (a : Option Addr) (n cap : Nat) (f : Nat → Deed) (left : Int) (w : World) (h0 : 0 ≤ left) (h1 : left ≤ 1048576) (hn : (n : Int) ≤ 9223372036854775807) (hv : SlDeed w a n f) (hs : ∀ i, i < n → SizedDeed (f i)) :
    Calls Tryd.prog 7 #[.agg #[.slice a n cap], .int .i64 left] w fun e w' => ∃ r : Int, e = .returned (.int .i64 r) ∧ -1 ≤ r ∧ r ≤ left ∧ (0 ≤ r → r + n ≤ left ∧ ∀ i, i < n → FitsDeed (f i)) ∧ Below w.heap.size w w' := by
  have HV := hide hv
  have HS := hide hs
  clear hv hs
  go_enter Tryd.func7, Tryd.ntmps7
  go_wp2_with fail
  refine (szDeedS_anyN a n cap f left _ h0 h1 hn (HV.out.below ((Below.refl _ _).alloc (Nat.le_refl _) _) (Nat.le_refl _)) HS.out).mono ?_
  rintro e w' ⟨r, rfl, hr1, hr2, hr3, hB⟩
  have HR3 := hide hr3
  clear hr3
  go_wp2
  all_goals go_ret
  · exact ⟨-1, rfl, by omega, by omega, fun _ => by omega, ((Below.refl _ _).alloc (Nat.le_refl _) _).trans (hB.mono (by simp))⟩
  · exact ⟨r, rfl, hr1, hr2, HR3.out, ((Below.refl _ _).alloc (Nat.le_refl _) _).trans (hB.mono (by simp))⟩

set_option maxHeartbeats 400000 in
theorem szAccountS_big (a : Option Addr) (m cap : Nat) (left : Int) (w : World) (h0 : 0 ≤ left) (h1 : left ≤ 1048576) (hm : (m : Int) ≤ 9223372036854775807) (h : left < (m : Int)) :
    Calls Tryd.prog 20 #[.slice a m cap, .int .i64 left] w fun e w' => e = .returned (.int .i64 (-1)) ∧ w' = w := by
  go_enter Tryd.func20, Tryd.ntmps20
  go_wp2
  go_ret
  exact ⟨rfl, rfl⟩
set_option maxHeartbeats 1000000 in
theorem szAccountS_row (b off m cap : Nat) (F : Nat → Acc) (left : Int) (w : World) (h0 : (m : Int) ≤ left) (h1 : left ≤ 1048576) (hf : RowAcc w b off m F) (hs : ∀ i, i < m → SizedAcc (F i)) :
    Calls Tryd.prog 20 #[.slice (some ⟨b, off, none⟩) m cap, .int .i64 left] w fun e w' => ∃ r : Int, e = .returned (.int .i64 r) ∧ -1 ≤ r ∧ r ≤ left ∧ (0 ≤ r → r + m + sumN F m ≤ left ∧ ∀ i, i < m → FitsAcc (F i)) ∧ Below w.heap.size w w' := by
  have HF := hide hf
  have HS := hide hs
  clear hf hs
  go_enter Tryd.func20, Tryd.ntmps20
  go_wp2
  go_loopw [1, 5] (fun l i wr => ∃ k : Nat, ∃ r : Int, k ≤ m ∧ 0 ≤ r ∧ r + m + sumN F k ≤ left ∧ i = .int .i64 k ∧ l = .int .i64 r ∧ Hid (∀ i, i < k → FitsAcc (F i)) ∧ Below w.heap.size w wr) (fun _ i _ => m - (intOf i).toNat)
  case atStart => exact ⟨0, left - m, by omega, by omega, by simp [sumN], rfl, rfl, fun i hi => absurd hi (Nat.not_lt_zero _), Below.refl _ _⟩
  case round =>
    obtain ⟨k, r, hk, hr0, hr1, rfl, rfl, hfit, hB⟩ := hrel
    have HB := hide hB
    have hsz : w.heap.size ≤ wr.heap.size := hB.size
    clear hB
    by_cases hlt : k < m
    · obtain ⟨a0, cap0, s0, r0⟩ := (HF.out.2 k hlt).below HB.out (Nat.le_refl _) HF.out.1
      have HR := hide r0
      have HN : Hid (sumN F (k + 1) = sumN F k + (F k).n) := rfl
      clear r0
      go_wp2_with fail
      refine (szAccount_anyN a0 (F k).n cap0 (F k).f _ _ (by omega) (by omega) (HS.out k hlt).1 HR.out (HS.out k hlt).2).mono ?_
      rintro e w' ⟨r', rfl, hr2, hr3, hr4, hB'⟩
      have HR4 := hide hr4
      have HB' := hide (HB.out.trans (hB'.mono hsz))
      clear hr4 hB'
      go_wp2
      · go_ret
        exact ⟨-1, rfl, by omega, by omega, fun _ => by omega, HB'.out⟩
      · exact ⟨⟨k + 1, r', by omega, by omega, by have h1 := HN.out; have h2 := (HR4.out (by omega)).1; omega, by go_num, rfl, fun i hi => by
          by_cases e : i = k
          · subst e; have h2 := HR4.out (by omega); exact ⟨by omega, h2.2⟩
          · exact hfit i (by omega), HB'.out⟩, by simp [intOf]; omega⟩
    · have e : k = m := by omega
      subst e
      go_wp2
      go_ret
      exact ⟨r, rfl, by omega, by omega, fun _ => ⟨by omega, hfit⟩, HB.out⟩
set_option maxHeartbeats 400000 in
theorem szAccountS_nil (a : Option Addr) (cap : Nat) (left : Int) (w : World) (h0 : 0 ≤ left) (h1 : left ≤ 1048576) :
    Calls Tryd.prog 20 #[.slice a 0 cap, .int .i64 left] w fun e w' => e = .returned (.int .i64 left) ∧ w' = w := by
  go_enter Tryd.func20, Tryd.ntmps20
  go_wp2
  go_loop [1, 5] (fun l i => l = .int .i64 left ∧ i = .int .i64 0) (fun _ _ => 0)
  case atStart => exact ⟨by simp, rfl⟩
  case round =>
    obtain ⟨rfl, rfl⟩ := hrel
    go_wp2
    go_ret
    exact ⟨rfl, rfl⟩
theorem szAccountS_any (a : Option Addr) (m cap : Nat) (F : Nat → Acc) (left : Int) (w : World) (h0 : 0 ≤ left) (h1 : left ≤ 1048576) (hm : (m : Int) ≤ 9223372036854775807) (hv : SlAcc w a m F) (hs : ∀ i, i < m → SizedAcc (F i)) :
    Calls Tryd.prog 20 #[.slice a m cap, .int .i64 left] w fun e w' => ∃ r : Int, e = .returned (.int .i64 r) ∧ -1 ≤ r ∧ r ≤ left ∧ (0 ≤ r → r + m + sumN F m ≤ left ∧ ∀ i, i < m → FitsAcc (F i)) ∧ Below w.heap.size w w' := by
  rcases hv with rfl | ⟨b, off, rfl, hr⟩
  · exact (szAccountS_nil a cap left w h0 h1).mono fun e w' ⟨a, b⟩ => ⟨_, a, by omega, by omega, fun _ => ⟨by simp [sumN], fun i hi => absurd hi (Nat.not_lt_zero _)⟩, by rw [b]; exact Below.refl _ _⟩
  · by_cases h : (m : Int) ≤ left
    · exact szAccountS_row b off m cap F left w h h1 hr hs
    · exact (szAccountS_big _ m cap left w h0 h1 hm (by omega)).mono fun e w' ⟨a, b⟩ => ⟨_, a, by omega, by omega, fun _ => by omega, by rw [b]; exact Below.refl _ _⟩

/-! copies -/
theorem infoAcc : (Tryd.prog.info? 30).map (fun i => (i.zero, i.size, i.bytes)) = some (some (.agg #[.slice none 0 0]), 1, 24) := by kernel_rfl
def zerosAcc (n : Nat) : Array Value := madeCells (Value.agg #[.slice none 0 0]).cells (n * 1)
theorem mkAcc (n : Nat) (hn : n ≤ 1048576) (w : World) : (Instr.makeSlice 43 (.int .i64 (n : Int)) (.int .i64 (n : Int))).run Tryd.prog w = .ok (.slice (some ⟨w.heap.size, 0, none⟩) n n) (w.alloc (.cells (zerosAcc n) 30)) := by
  obtain ⟨i, hi, hz⟩ := Option.map_eq_some_iff.1 infoAcc
  simp only [Prod.mk.injEq] at hz
  obtain ⟨h1, h2, h3⟩ := hz
  have h := run_make (P := Tryd.prog) w 43 30 i _ Tryd.underlying43 hi h1 .i64 .i64 n n (by omega) (Int.le_refl _) (by rw [h3]; omega) (by omega)
  rw [h2] at h
  simpa [zerosAcc] using h

/-- Block g is a row of m accounts; the first k are those of F, each with blocks of its own, from G i up to H i; all lie below N. -/
structure OwnAcc (w : World) (g m k N : Nat) (F : Nat → Acc) (V : Nat → Value) (G H : Nat → Nat) : Prop where
  row : w.rowIs g 30 m V
  cell : ∀ i, i < k → V i = .slice (some ⟨G i, 0, none⟩) (F i).n (F i).n
  own : ∀ i, i < k → OwnDeed2 w (G i) (F i).n (F i).n (H i) (F i).f
  beh : ∀ i, i < k → g < G i ∧ G i < H i ∧ H i ≤ N
  ord : ∀ i j, i < j → j < k → H i ≤ G j
theorem OwnAcc.below {w w' : World} {g m k N B : Nat} {F : Nat → Acc} {V : Nat → Value} {G H : Nat → Nat} (h : OwnAcc w g m k N F V G H) (hb : Below B w w') (hB : w.heap.size ≤ B) : OwnAcc w' g m k N F V G H :=
  ⟨h.row.of_block (hb.block g (Nat.lt_of_lt_of_le h.row.lt hB)), h.cell, fun i hi => (h.own i hi).below hb hB, h.beh, h.ord⟩
theorem OwnAcc.up {w : World} {g m k N M : Nat} {F : Nat → Acc} {V : Nat → Value} {G H : Nat → Nat} (h : OwnAcc w g m k N F V G H) (hN : N ≤ M) : OwnAcc w g m k M F V G H :=
  ⟨h.row, h.cell, h.own, fun i hi => ⟨(h.beh i hi).1, (h.beh i hi).2.1, Nat.le_trans (h.beh i hi).2.2 hN⟩, h.ord⟩
theorem OwnAcc.rows {w : World} {g m N : Nat} {F : Nat → Acc} {V : Nat → Value} {G H : Nat → Nat} (h : OwnAcc w g m m N F V G H) : RowAcc w g 0 m F :=
  ⟨h.row.lt, fun i hi => ⟨_, _, by rw [Nat.zero_add, h.row.cell hi, h.cell i hi], (h.own i hi).row.sl⟩⟩
theorem OwnAcc.step {w : World} {g m k N g0 M : Nat} {F : Nat → Acc} {V : Nat → Value} {G H : Nat → Nat} (h : OwnAcc w g m k N F V G H) (R : OwnDeed2 w g0 (F k).n (F k).n M (F k).f) (h1 : g < g0) (h2 : N ≤ g0) (h3 : g0 < M) :
    OwnAcc (w.setCell ⟨g, k, none⟩ (.slice (some ⟨g0, 0, none⟩) (F k).n (F k).n)) g m (k + 1) M F (fun j => if j = k then .slice (some ⟨g0, 0, none⟩) (F k).n (F k).n else V j) (fun j => if j = k then g0 else G j) (fun j => if j = k then M else H j) := by
  refine ⟨h.row.set k _, fun i hi => ?_, fun i hi => ?_, fun i hi => ?_, fun i j hij hj => ?_⟩
  · by_cases e : i = k
    · subst e; simp
    · rw [if_neg e, if_neg e]; exact h.cell i (by omega)
  · by_cases e : i = k
    · subst e; rw [if_pos rfl, if_pos rfl]; exact R.setOther _ h1 _
    · rw [if_neg e, if_neg e]; exact (h.own i (by omega)).setOther _ (h.beh i (by omega)).1 _
  · by_cases e : i = k
    · rw [if_pos e, if_pos e]; omega
    · rw [if_neg e, if_neg e]; have := h.beh i (by omega); omega
  · rw [if_neg (show ¬ i = k by omega)]
    by_cases e : j = k
    · rw [if_pos e]; have := h.beh i (by omega); omega
    · rw [if_neg e]; exact h.ord i j hij (by omega)

set_option maxRecDepth 100000 in
set_option maxHeartbeats 2000000 in
theorem toAccountS_row (b off m cap : Nat) (F : Nat → Acc) (w : World) (hm : m ≤ 1048576) (hf : RowAcc w b off m F) (hfit : ∀ i, i < m → FitsAcc (F i)) :
    Calls Tryd.prog 22 #[.slice (some ⟨b, off, none⟩) m cap] w fun e w' => ∃ g V G H, e = .returned (.slice (some ⟨g, 0, none⟩) m m) ∧ OwnAcc w' g m m w'.heap.size F V G H ∧ w.heap.size ≤ g ∧ Below w.heap.size w w' := by
  have HF := hide hf
  have HM := hide hfit
  clear hf hfit
  have hmk := mkAcc m hm
  have hz : (zerosAcc m).size = m := by have := size_madeCells (Value.agg #[.slice none 0 0]).cells (m * 1); rw [Nat.mul_one] at this; simpa [zerosAcc] using this
  have R0 := World.rowIs_alloc w (zerosAcc m) 30 (fun i => (zerosAcc m)[i]?.getD undef) (fun i hi => by rw [Array.getElem?_eq_getElem hi]; rfl)
  rw [hz] at R0
  have HR0 := hide R0
  clear R0 hz
  go_enter Tryd.func22, Tryd.ntmps22
  go_wp2
  clear hmk
  go_loopw [4] (fun i wr => ∃ (k : Nat) (V : Nat → Value) (G H : Nat → Nat), k ≤ m ∧ i = .int .i64 k ∧ Hid (OwnAcc wr w.heap.size m k wr.heap.size F V G H) ∧ Hid (Below w.heap.size w wr)) (fun i _ => m - (intOf i).toNat)
  case atStart => exact ⟨0, _, fun _ => 0, fun _ => 0, by omega, rfl, ⟨HR0.out, fun i hi => absurd hi (Nat.not_lt_zero _), fun i hi => absurd hi (Nat.not_lt_zero _), fun i hi => absurd hi (Nat.not_lt_zero _), fun i j _ hj => absurd hj (Nat.not_lt_zero _)⟩, (Below.refl _ _).alloc (Nat.le_refl _) _⟩
  case round =>
    obtain ⟨k, V, G, H, hk, rfl, HO, HB⟩ := hrel
    have hlo : w.heap.size < wr.heap.size := HO.out.row.lt
    by_cases hlt : k < m
    · obtain ⟨a0, cap0, s0, r0⟩ := (HF.out.2 k hlt).below HB.out (Nat.le_refl _) HF.out.1
      have HR := hide r0
      clear r0
      go_wp2_with fail
      refine (toAccount_anyO a0 (F k).n cap0 (F k).f _ (HM.out k hlt).1 HR.out (HM.out k hlt).2).mono ?_
      rintro e w1 ⟨g0, rfl, hS, hg, hB1⟩
      have O1 := hide (HO.out.below hB1 (Nat.le_refl _))
      have S1 := hide hS
      have gl := hS.lt
      have B1 := hide (HB.out.trans (hB1.mono (Nat.le_of_lt hlo)))
      have ST := hide ((O1.out.step S1.out (by omega) hg gl).up (M := (w1.setCell ⟨w.heap.size, k, none⟩ (.slice (some ⟨g0, 0, none⟩) (F k).n (F k).n)).heap.size) (by simp))
      have d0 := O1.out.row.cell hlt
      have z0 := O1.out.row.frozen k
      clear hB1 hS s0
      go_wp2
      exact ⟨⟨k + 1, _, _, _, by omega, by go_num, ST.out, B1.out.setCell (Nat.le_refl _) _⟩, by simp [intOf]; omega⟩
    · have e : k = m := by omega
      subst e
      go_wp2
      go_ret
      exact ⟨_, V, G, H, rfl, HO.out, Nat.le_refl _, HB.out⟩

set_option maxHeartbeats 1000000 in
theorem toAccountS_nil (a : Option Addr) (cap : Nat) (F : Nat → Acc) (w : World) :
    Calls Tryd.prog 22 #[.slice a 0 cap] w fun e w' => ∃ g V G H, e = .returned (.slice (some ⟨g, 0, none⟩) 0 0) ∧ OwnAcc w' g 0 0 w'.heap.size F V G H ∧ w.heap.size ≤ g ∧ Below w.heap.size w w' := by
  have hmk : ∀ w : World, (Instr.makeSlice 43 (.int .i64 0) (.int .i64 0)).run Tryd.prog w = .ok (.slice (some ⟨w.heap.size, 0, none⟩) 0 0) (w.alloc (.cells (zerosAcc 0) 30)) := fun w => mkAcc 0 (by omega) w
  have R0 := World.rowIs_alloc w (zerosAcc 0) 30 (fun i => (zerosAcc 0)[i]?.getD undef) (fun i hi => by rw [Array.getElem?_eq_getElem hi]; rfl)
  rw [show (zerosAcc 0).size = 0 from size_madeCells _ _] at R0
  have HR0 := hide R0
  clear R0
  go_enter Tryd.func22, Tryd.ntmps22
  go_wp2
  clear hmk
  go_loop [4] (fun i => i = .int .i64 0) (fun _ => 0)
  case atStart => rfl
  case round =>
    subst hrel
    go_wp2
    go_ret
    have O := hide (show OwnAcc (w.alloc (.cells (zerosAcc 0) 30)) w.heap.size 0 0 (w.alloc (.cells (zerosAcc 0) 30)).heap.size F _ (fun _ => 0) (fun _ => 0) from ⟨HR0.out, fun i hi => absurd hi (Nat.not_lt_zero _), fun i hi => absurd hi (Nat.not_lt_zero _), fun i hi => absurd hi (Nat.not_lt_zero _), fun i j _ hj => absurd hj (Nat.not_lt_zero _)⟩)
    exact ⟨_, rfl, ⟨_, _, _, O.out⟩, Nat.le_refl _, (Below.refl _ _).alloc (Nat.le_refl _) _⟩
theorem toAccountS_any (a : Option Addr) (m cap : Nat) (F : Nat → Acc) (w : World) (hm : m ≤ 1048576) (hv : SlAcc w a m F) (hfit : ∀ i, i < m → FitsAcc (F i)) :
    Calls Tryd.prog 22 #[.slice a m cap] w fun e w' => ∃ g V G H, e = .returned (.slice (some ⟨g, 0, none⟩) m m) ∧ OwnAcc w' g m m w'.heap.size F V G H ∧ w.heap.size ≤ g ∧ Below w.heap.size w w' := by
  rcases hv with rfl | ⟨b, off, rfl, hr⟩
  · exact toAccountS_nil a cap F w
  · exact toAccountS_row b off m cap F w hm hr hfit

/-! comparisons -/
set_option maxRecDepth 100000 in
set_option maxHeartbeats 2000000 in
theorem eqAccountS_row (b off cap b2 off2 cap2 m : Nat) (F : Nat → Acc) (w : World) (hm : m ≤ 1048576) (hf : RowAcc w b off m F) (hf2 : RowAcc w b2 off2 m F) (hfit : ∀ i, i < m → FitsAcc (F i)) :
    Calls Tryd.prog 25 #[.slice (some ⟨b, off, none⟩) m cap, .slice (some ⟨b2, off2, none⟩) m cap2] w fun e w' => e = .returned (.bool true) ∧ Below w.heap.size w w' := by
  have HF := hide hf
  have HF2 := hide hf2
  have HM := hide hfit
  clear hf hf2 hfit
  go_enter Tryd.func25, Tryd.ntmps25
  go_wp2
  go_loopw [5] (fun i wr => ∃ k : Nat, k ≤ m ∧ i = .int .i64 k ∧ Below w.heap.size w wr) (fun i _ => m - (intOf i).toNat)
  case atStart => exact ⟨0, by omega, rfl, Below.refl _ _⟩
  case round =>
    obtain ⟨k, hk, rfl, hB⟩ := hrel
    have HB := hide hB
    have hsz : w.heap.size ≤ wr.heap.size := hB.size
    clear hB
    by_cases hlt : k < m
    · obtain ⟨a0, cap0, s0, r0⟩ := (HF.out.2 k hlt).below HB.out (Nat.le_refl _) HF.out.1
      obtain ⟨b0, dap0, t0, v0⟩ := (HF2.out.2 k hlt).below HB.out (Nat.le_refl _) HF2.out.1
      have HR := hide r0
      have HR2 := hide v0
      clear r0 v0
      go_wp2_with fail
      go_region_with (go_at_call 12; refine (eqAccount_any a0 b0 cap0 dap0 (F k).n (F k).f _ (HM.out k hlt).1 ?_ ?_ (HM.out k hlt).2).mono ?_; exact HR.out; exact HR2.out; rintro e w' ⟨rfl, hB'⟩)
      all_goals
        go_wp2
        exact ⟨⟨k + 1, by omega, by go_num, Below.trans (by repeat (first | exact HB.out | apply Below.drew)) (hB'.mono hsz)⟩, by simp [intOf]; omega⟩
    · have e : k = m := by omega
      subst e
      go_wp2
      go_ret
      exact ⟨rfl, HB.out⟩
set_option maxHeartbeats 1000000 in
theorem eqAccountS_nil (a a2 : Option Addr) (cap cap2 : Nat) (w : World) :
    Calls Tryd.prog 25 #[.slice a 0 cap, .slice a2 0 cap2] w fun e w' => e = .returned (.bool true) ∧ w' = w := by
  go_enter Tryd.func25, Tryd.ntmps25
  go_wp2
  go_loop [5] (fun i => i = .int .i64 0) (fun _ => 0)
  case atStart => rfl
  case round =>
    subst hrel
    go_wp2
    go_ret
    exact ⟨rfl, rfl⟩
theorem eqAccountS_any (a a2 : Option Addr) (cap cap2 m : Nat) (F : Nat → Acc) (w : World) (hm : m ≤ 1048576) (h : SlAcc w a m F) (h2 : SlAcc w a2 m F) (hfit : ∀ i, i < m → FitsAcc (F i)) :
    Calls Tryd.prog 25 #[.slice a m cap, .slice a2 m cap2] w fun e w' => e = .returned (.bool true) ∧ Below w.heap.size w w' := by
  by_cases hz : m = 0
  · subst hz
    exact (eqAccountS_nil a a2 cap cap2 w).mono fun _ _ ⟨a, b⟩ => ⟨a, by rw [b]; exact Below.refl _ _⟩
  · rcases h with h | ⟨b, off, rfl, hr⟩
    · exact absurd h hz
    · rcases h2 with h | ⟨b2, off2, rfl, hr2⟩
      · exact absurd h hz
      · exact eqAccountS_row b off cap b2 off2 cap2 m F w hm hr hr2 hfit

/-! marks -/
theorem OwnDeed2.touch {w w' : World} {g n N : Nat} {f : Nat → Deed} {P : Nat → Prop} (h : OwnDeed2 w g n n N f) (hT : Touch P w w') (hP : ∀ x, g ≤ x → (x = g ∨ x < N) → ¬ P x) : OwnDeed2 w' g n n N f := by
  have hl := h.lt
  obtain ⟨F, G0, G1, hr, ha, hN, hF⟩ := h
  refine ⟨F, G0, G1, hr.of_block (hT.block g hl (hP g (Nat.le_refl _) (.inl rfl))), ha, hN, fun i hi => ?_⟩
  obtain ⟨p0, p1, p2, p3, ⟨s0, ⟨F0, r0, t0⟩, u0⟩, ⟨s1, ⟨F1, r1, t1⟩, u1⟩⟩ := hF i hi
  exact ⟨p0, p1, p2, p3, ⟨s0, ⟨F0, r0.of_block (hT.block _ r0.lt (hP _ (by omega) (.inr (hN i hi).1))), t0⟩, u0⟩, ⟨s1, ⟨F1, r1.of_block (hT.block _ r1.lt (hP _ (by omega) (.inr (hN i hi).2))), t1⟩, u1⟩⟩
theorem sumN_le {F : Nat → Acc} {k m : Nat} (h : k ≤ m) : sumN F k ≤ sumN F m := by
  induction m with
  | zero => obtain rfl : k = 0 := by omega
            exact Nat.le_refl _
  | succ j ih =>
    by_cases e : k = j + 1
    · subst e; exact Nat.le_refl _
    · have := ih (by omega)
      simp only [sumN]
      omega
theorem markDeedS_own (g n N k0 : Nat) (f : Nat → Deed) (w : World) (hn : (n : Int) ≤ 1048576) (h1 : 1 ≤ (k0 : Int)) (h2 : (k0 : Int) ≤ 1125899906842624) (hf : ∀ i, i < n → FitsDeed (f i)) (h : OwnDeed2 w g n n N f) (hN : g < N) :
    Calls Tryd.prog 37 #[.slice (some ⟨g, 0, none⟩) n n, .int .i64 k0] w fun e w' => ∃ q : Nat, e = .returned (.int .i64 q) ∧ k0 ≤ q ∧ q ≤ k0 + n * 7340036 ∧ Touch (fun x => g ≤ x ∧ x < N) w w' := by
  obtain ⟨A, L, hP, hC, hB⟩ := h.plan hf
  refine (markDeedS_row g n n k0 A L _ _ w hn h1 h2 hP hC).mono ?_
  rintro e w' ⟨rfl, -, hT⟩
  exact ⟨_, rfl, dAt_ge, dAt_le (fun i hi => (hP.fit i hi).1) (fun i hi => (hP.fit i hi).2), hT.mono fun x hx => ⟨(hB x hx).1, by rcases (hB x hx).2 with h | h <;> omega⟩⟩

set_option maxRecDepth 100000 in
set_option maxHeartbeats 4000000 in
theorem markAccountS_own (g m N : Nat) (F : Nat → Acc) (V : Nat → Value) (G H : Nat → Nat) (w : World) (hm : (m : Int) ≤ 1048576) (hs : (sumN F m : Int) ≤ 1048576) (hf : ∀ i, i < m → FitsAcc (F i)) (h : OwnAcc w g m m N F V G H) :
    Calls Tryd.prog 26 #[.slice (some ⟨g, 0, none⟩) m m, .int .i64 1] w fun e w' => ∃ q : Nat, e = .returned (.int .i64 q) ∧ Touch (fun x => g ≤ x ∧ x < N) w w' := by
  have HO := hide h
  have HM := hide hf
  clear h hf
  go_enter Tryd.func26, Tryd.ntmps26
  go_wp2
  go_loopw [1, 5] (fun v i wr => ∃ k q : Nat, k ≤ m ∧ i = .int .i64 k ∧ v = .int .i64 q ∧ 1 ≤ q ∧ Hid (q ≤ 1 + sumN F k * 7340036) ∧ Hid (∀ j, j < m → wr.cell? ⟨g, j, none⟩ = some (.slice (some ⟨G j, 0, none⟩) (F j).n (F j).n)) ∧ Hid (∀ j, k ≤ j → j < m → OwnDeed2 wr (G j) (F j).n (F j).n (H j) (F j).f) ∧ Hid (Touch (fun x => g ≤ x ∧ x < N) w wr)) (fun _ i _ => m - (intOf i).toNat)
  case atStart => exact ⟨0, 1, by omega, rfl, rfl, by omega, by show 1 ≤ _; omega, fun j hj => by rw [HO.out.row.cell hj, HO.out.cell j hj], fun j _ hj => HO.out.own j hj, Touch.refl _ _⟩
  case round =>
    obtain ⟨k, q, hk, rfl, rfl, hq1, HQ, HC, HD, HT⟩ := hrel
    by_cases hlt : k < m
    · have c0 := HC.out k hlt
      have hb := HO.out.beh k hlt
      have hq2 : (q : Int) ≤ 1125899906842624 := by have h1 := HQ.out; have h2 := sumN_le (F := F) (k := k) (m := m) (by omega); omega
      go_wp2_with fail
      refine (markDeedS_own (G k) (F k).n (H k) q (F k).f _ (by have := (HM.out k hlt).1; omega) (by omega) hq2 (HM.out k hlt).2 (HD.out k (Nat.le_refl _) hlt) hb.2.1).mono ?_
      rintro e w1 ⟨q1, rfl, hq3, hq4, hT⟩
      have HQ1 : Hid (q1 ≤ 1 + sumN F (k + 1) * 7340036) := by show q1 ≤ _; have h1 := HQ.out; simp only [sumN]; omega
      have HC1 : Hid (∀ j, j < m → w1.cell? ⟨g, j, none⟩ = some (.slice (some ⟨G j, 0, none⟩) (F j).n (F j).n)) := fun j hj => (hT.cell (p := ⟨g, j, none⟩) (Nat.lt_of_lt_of_le HO.out.row.lt HT.out.size) (by rintro ⟨h1, h2⟩; simp at h1; omega)).trans (HC.out j hj)
      have HD1 : Hid (∀ j, k + 1 ≤ j → j < m → OwnDeed2 w1 (G j) (F j).n (F j).n (H j) (F j).f) := fun j h1 h2 => (HD.out j (by omega) h2).touch hT (by rintro x hx1 - ⟨-, hx2⟩; have := HO.out.ord k j (by omega) h2; omega)
      have HT1 := hide (HT.out.trans (hT.mono fun x hx => by omega))
      clear hT hq4
      go_wp2
      exact ⟨⟨k + 1, q1, by omega, by go_num, rfl, by omega, HQ1.out, HC1.out, HD1.out, HT1.out⟩, by simp [intOf]; omega⟩
    · have e : k = m := by omega
      subst e
      go_wp2
      go_ret
      exact ⟨q, rfl, HT.out⟩

end Go.Proofs.YtkgddbcjmejfaaaDoor.Vp
