/-
  Put together of: MDeedA, MDeed, MAcc, MAccO.
-/
import Derived.Test.YtkgddbcjmejfaaaGreatDoorZH
import Derived.Test.YtkgddbcjmejfaaaGreatDoorZC

/-
  Marks of deeds and accounts.
-/
namespace Go.Proofs.YtkgddbcjmejfaaaGreatDoor.Vp
open Go.RowKit

/-- The mark of deed i's name. -/
def dAt (a l : Nat → Nat) (k0 : Nat) : Nat → Nat
  | 0 => k0
  | i + 1 => dAt a l k0 i + 4 + a i * 3 + l i * 4
theorem dAt_le {a l : Nat → Nat} {k0 n : Nat} (ha : ∀ i, i < n → a i ≤ 1048576) (hl : ∀ i, i < n → l i ≤ 1048576) : dAt a l k0 n ≤ k0 + n * 7340036 := by
  induction n with
  | zero => simp [dAt]
  | succ j ih =>
    have h1 := ih (fun i hi => ha i (by omega)) (fun i hi => hl i (by omega))
    have h2 := ha j (by omega)
    have h3 := hl j (by omega)
    simp only [dAt]
    omega
theorem dAt_ge {a l : Nat → Nat} {k0 n : Nat} : k0 ≤ dAt a l k0 n := by
  induction n with
  | zero => exact Nat.le_refl _
  | succ j ih =>
    simp only [dAt]
    omega

theorem markInsS_sl (p : Option Addr) (n cap k0 b : Nat) (w : World) (hn : (n : Int) ≤ 1048576) (h1 : 1 ≤ (k0 : Int)) (h2 : (k0 : Int) ≤ 1152921504606846976) (h : Room w p n b (n * 3)) :
    Calls Tryz.prog 44 #[.slice p n cap, .int .i64 k0] w fun e w' => e = .returned (.int .i64 ((k0 + n * 3 : Nat) : Int)) ∧ (n = 0 ∨ Cells w' b 0 (n * 3) (markIns k0)) ∧ Touch (fun x => n ≠ 0 ∧ x = b) w w' := by
  by_cases hz : n = 0
  · subst hz
    exact (markInsS_nil p cap k0 w).mono fun e w' ⟨a, b⟩ => ⟨by simpa using a, .inl rfl, by rw [b]; exact Touch.refl _ _⟩
  · obtain ⟨rfl, G, hG⟩ := h.resolve_left hz
    exact (markInsS_row b 0 n cap k0 G w hn h1 h2 hG).mono fun e w' ⟨x, y, z⟩ => ⟨x, .inr y, Touch.of_within z ⟨hz, rfl⟩⟩
theorem markLinkS_sl (p : Option Addr) (n cap k0 b : Nat) (w : World) (hn : (n : Int) ≤ 1048576) (h1 : 1 ≤ (k0 : Int)) (h2 : (k0 : Int) ≤ 1152921504606846976) (h : Room w p n b (n * 4)) :
    Calls Tryz.prog 45 #[.slice p n cap, .int .i64 k0] w fun e w' => e = .returned (.int .i64 ((k0 + n * 4 : Nat) : Int)) ∧ (n = 0 ∨ Cells w' b 0 (n * 4) (markLink k0)) ∧ Touch (fun x => n ≠ 0 ∧ x = b) w w' := by
  by_cases hz : n = 0
  · subst hz
    exact (markLinkS_nil p cap k0 w).mono fun e w' ⟨a, b⟩ => ⟨by simpa using a, .inl rfl, by rw [b]; exact Touch.refl _ _⟩
  · obtain ⟨rfl, G, hG⟩ := h.resolve_left hz
    exact (markLinkS_row b 0 n cap k0 G w hn h1 h2 hG).mono fun e w' ⟨x, y, z⟩ => ⟨x, .inr y, Touch.of_within z ⟨hz, rfl⟩⟩

/-- What is fixed of n deeds in block T: their rows of instructions (A, a) and of links (L, l); all apart. -/
structure DPlan (T n : Nat) (A L a l : Nat → Nat) : Prop where
  fit : ∀ i, i < n → a i ≤ 1048576 ∧ l i ≤ 1048576
  apart : ∀ i, i < n → (a i ≠ 0 → A i ≠ T) ∧ (l i ≠ 0 → L i ≠ T)
  each : ∀ i j, i < n → j < n → i ≠ j → (a i ≠ 0 → a j ≠ 0 → A i ≠ A j) ∧ (l i ≠ 0 → l j ≠ 0 → L i ≠ L j)
  cross : ∀ i j, i < n → j < n → a i ≠ 0 → l j ≠ 0 → A i ≠ L j
/-- The blocks of the plan. -/
def DBlk (T n : Nat) (A L a l : Nat → Nat) (x : Nat) : Prop := x = T ∨ ∃ i, i < n ∧ ((a i ≠ 0 ∧ x = A i) ∨ (l i ≠ 0 ∧ x = L i))
/-- Cells of n deeds in block T. -/
structure DCells (w : World) (T n : Nat) (A L a l : Nat → Nat) : Prop where
  row : ∃ F, Cells w T 0 (n * 6) F ∧ ∀ i, i < n → (∃ p cap, F (i * 6 + 4) = .slice p (a i) cap ∧ (a i ≠ 0 → p = some ⟨A i, 0, none⟩)) ∧ ∃ p cap, F (i * 6 + 5) = .slice p (l i) cap ∧ (l i ≠ 0 → p = some ⟨L i, 0, none⟩)
  act : ∀ i, i < n → a i ≠ 0 → ∃ G, Cells w (A i) 0 (a i * 3) G
  lnk : ∀ i, i < n → l i ≠ 0 → ∃ G, Cells w (L i) 0 (l i * 4) G
/-- .. marked from k0 on. -/
structure DMarked (w : World) (T n : Nat) (A L a l : Nat → Nat) (k0 : Nat) : Prop where
  row : ∃ F, Cells w T 0 (n * 6) F ∧ ∀ i, i < n → F (i * 6) = .string (mkT ((dAt a l k0 i : Nat) : Int)) ∧ F (i * 6 + 1) = .int .i64 ((dAt a l k0 i + 1 : Nat) : Int) ∧ F (i * 6 + 2) = .int .i64 ((dAt a l k0 i + 2 : Nat) : Int) ∧ F (i * 6 + 3) = .string (mkT ((dAt a l k0 i + 3 : Nat) : Int)) ∧ (∃ p cap, F (i * 6 + 4) = .slice p (a i) cap ∧ (a i ≠ 0 → p = some ⟨A i, 0, none⟩)) ∧ ∃ p cap, F (i * 6 + 5) = .slice p (l i) cap ∧ (l i ≠ 0 → p = some ⟨L i, 0, none⟩)
  act : ∀ i, i < n → a i ≠ 0 → Cells w (A i) 0 (a i * 3) (markIns (dAt a l k0 i + 4))
  lnk : ∀ i, i < n → l i ≠ 0 → Cells w (L i) 0 (l i * 4) (markLink (dAt a l k0 i + 4 + a i * 3))
theorem DMarked.below {w w' : World} {T n k0 Z : Nat} {A L a l : Nat → Nat} (h : DMarked w T n A L a l k0) (hb : Below Z w w') (hZ : w.heap.size ≤ Z) : DMarked w' T n A L a l k0 := by
  obtain ⟨⟨F, hF, h1⟩, h2, h3⟩ := h
  exact ⟨⟨F, hF.below hb (Nat.lt_of_lt_of_le hF.1 hZ), h1⟩, fun i hi hz => (h2 i hi hz).below hb (Nat.lt_of_lt_of_le (h2 i hi hz).1 hZ), fun i hi hz => (h3 i hi hz).below hb (Nat.lt_of_lt_of_le (h3 i hi hz).1 hZ)⟩
theorem DCells.below {w w' : World} {T n Z : Nat} {A L a l : Nat → Nat} (h : DCells w T n A L a l) (hb : Below Z w w') (hZ : w.heap.size ≤ Z) : DCells w' T n A L a l := by
  obtain ⟨⟨F, hF, h1⟩, h2, h3⟩ := h
  refine ⟨⟨F, hF.below hb (Nat.lt_of_lt_of_le hF.1 hZ), h1⟩, fun i hi hz => ?_, fun i hi hz => ?_⟩
  · obtain ⟨G, hG⟩ := h2 i hi hz
    exact ⟨G, hG.below hb (Nat.lt_of_lt_of_le hG.1 hZ)⟩
  · obtain ⟨G, hG⟩ := h3 i hi hz
    exact ⟨G, hG.below hb (Nat.lt_of_lt_of_le hG.1 hZ)⟩

/-- What stands behind k of n deeds; the rows of instructions from ka on and those of links from kl on are still as they were. -/
structure DPart (w : World) (T n k ka kl k0 : Nat) (A L a l : Nat → Nat) (F : Nat → Value) : Prop where
  row : Cells w T 0 (n * 6) F
  sl : ∀ i, i < n → (∃ p cap, F (i * 6 + 4) = .slice p (a i) cap ∧ (a i ≠ 0 → p = some ⟨A i, 0, none⟩)) ∧ ∃ p cap, F (i * 6 + 5) = .slice p (l i) cap ∧ (l i ≠ 0 → p = some ⟨L i, 0, none⟩)
  mrk : ∀ i, i < k → F (i * 6) = .string (mkT ((dAt a l k0 i : Nat) : Int)) ∧ F (i * 6 + 1) = .int .i64 ((dAt a l k0 i + 1 : Nat) : Int) ∧ F (i * 6 + 2) = .int .i64 ((dAt a l k0 i + 2 : Nat) : Int) ∧ F (i * 6 + 3) = .string (mkT ((dAt a l k0 i + 3 : Nat) : Int))
  actM : ∀ i, i < k → a i ≠ 0 → Cells w (A i) 0 (a i * 3) (markIns (dAt a l k0 i + 4))
  lnkM : ∀ i, i < k → l i ≠ 0 → Cells w (L i) 0 (l i * 4) (markLink (dAt a l k0 i + 4 + a i * 3))
  act : ∀ i, ka ≤ i → i < n → a i ≠ 0 → ∃ G, Cells w (A i) 0 (a i * 3) G
  lnk : ∀ i, kl ≤ i → i < n → l i ≠ 0 → ∃ G, Cells w (L i) 0 (l i * 4) G
theorem DPart.move {w w' : World} {T n k ka kl k0 : Nat} {A L a l : Nat → Nat} {F F' : Nat → Value} (h : DPart w T n k ka kl k0 A L a l F) (hr : Cells w' T 0 (n * 6) F') (hs : ∀ i, i < n → F' (i * 6 + 4) = F (i * 6 + 4) ∧ F' (i * 6 + 5) = F (i * 6 + 5)) (hm : ∀ i, i < k → ∀ j, j < 4 → F' (i * 6 + j) = F (i * 6 + j)) {Q : Nat → Prop} (ht : Touch Q w w') (hA : ∀ i, i < n → (i < k ∨ ka ≤ i) → a i ≠ 0 → ¬ Q (A i)) (hL : ∀ i, i < n → (i < k ∨ kl ≤ i) → l i ≠ 0 → ¬ Q (L i)) (hk : k ≤ n) : DPart w' T n k ka kl k0 A L a l F' := by
  refine ⟨hr, fun i hi => ?_, fun i hi => ?_, fun i hi hz => (h.actM i hi hz).touch ht (hA i (by omega) (.inl hi) hz), fun i hi hz => (h.lnkM i hi hz).touch ht (hL i (by omega) (.inl hi) hz), fun i h1 h2 hz => ?_, fun i h1 h2 hz => ?_⟩
  · rw [(hs i hi).1, (hs i hi).2]
    exact h.sl i hi
  · have e0 : F' (i * 6) = F (i * 6) := hm i hi 0 (by omega)
    rw [e0, hm i hi 1 (by omega), hm i hi 2 (by omega), hm i hi 3 (by omega)]
    exact h.mrk i hi
  · obtain ⟨G, hG⟩ := h.act i h1 h2 hz
    exact ⟨G, hG.touch ht (hA i h2 (.inr h1) hz)⟩
  · obtain ⟨G, hG⟩ := h.lnk i h1 h2 hz
    exact ⟨G, hG.touch ht (hL i h2 (.inr h1) hz)⟩
theorem DPart.below {w w' : World} {T n k ka kl k0 Z : Nat} {A L a l : Nat → Nat} {F : Nat → Value} (h : DPart w T n k ka kl k0 A L a l F) (hb : Below Z w w') (hZ : w.heap.size ≤ Z) (hk : k ≤ n) : DPart w' T n k ka kl k0 A L a l F :=
  h.move (h.row.below hb (Nat.lt_of_lt_of_le h.row.1 hZ)) (fun _ _ => ⟨rfl, rfl⟩) (fun _ _ _ _ => rfl) (Q := fun _ => False) (Touch.of_below hb hZ) (fun _ _ _ _ h => h) (fun _ _ _ _ h => h) hk
/-- A mark in cell j of deed k. -/
theorem DPart.setCell {w : World} {T n k ka kl k0 : Nat} {A L a l : Nat → Nat} {F : Nat → Value} (h : DPart w T n k ka kl k0 A L a l F) (hP : DPlan T n A L a l) (hk : k < n) (x j : Nat) (hx : x = 0 + (k * 6 + j)) (hj : j < 4) (v : Value) : DPart (w.setCell ⟨T, x, none⟩ v) T n k ka kl k0 A L a l (fun y => if y = k * 6 + j then v else F y) := by
  have hr := h.row.setAt x (k * 6 + j) hx (by omega) v
  refine h.move hr (fun i hi => ⟨?_, ?_⟩) (fun i hi y hy => ?_) (Q := fun y => y = T) ((Touch.refl (fun y => y = T) w).setCell (p := ⟨T, x, none⟩) rfl v) (fun i hi _ hz => (hP.apart i hi).1 hz) (fun i hi _ hz => (hP.apart i hi).2 hz) (by omega)
  · exact if_neg (by omega)
  · exact if_neg (by omega)
  · exact if_neg (by omega)
/-- The row of instructions of deed k is marked. -/
theorem DPart.acted {w w' : World} {T n k k0 : Nat} {A L a l : Nat → Nat} {F : Nat → Value} (h : DPart w T n k k k k0 A L a l F) (hP : DPlan T n A L a l) (hk : k < n) (ht : Touch (fun x => a k ≠ 0 ∧ x = A k) w w') : DPart w' T n k (k + 1) k k0 A L a l F := by
  have h' : DPart w T n k (k + 1) k k0 A L a l F := ⟨h.row, h.sl, h.mrk, h.actM, h.lnkM, fun i hi => h.act i (by omega), h.lnk⟩
  refine h'.move (h.row.touch ht fun e => (hP.apart k hk).1 e.1 e.2.symm) (fun _ _ => ⟨rfl, rfl⟩) (fun _ _ _ _ => rfl) ht (fun i hi h1 hz e => ?_) (fun i hi h1 hz e => hP.cross k i hk hi e.1 hz e.2.symm) (by omega)
  exact (hP.each i k hi hk (by omega)).1 hz e.1 e.2
/-- .. and its links. -/
theorem DPart.linked {w w' : World} {T n k k0 q : Nat} {A L a l : Nat → Nat} {F : Nat → Value} (h : DPart w T n k (k + 1) k k0 A L a l F) (hP : DPlan T n A L a l) (hk : k < n) (ht : Touch (fun x => l k ≠ 0 ∧ x = L k) w w') (hq : q = dAt a l k0 k)
    (hA : a k = 0 ∨ Cells w (A k) 0 (a k * 3) (markIns (q + 4))) (hL : l k = 0 ∨ Cells w' (L k) 0 (l k * 4) (markLink (q + 4 + a k * 3)))
    (e0 : F (k * 6) = .string (mkT (q : Int))) (e1 : F (k * 6 + 1) = .int .i64 ((q : Int) + 1)) (e2 : F (k * 6 + 2) = .int .i64 ((q : Int) + 1 + 1)) (e3 : F (k * 6 + 3) = .string (mkT ((q : Int) + 1 + 1 + 1))) : DPart w' T n (k + 1) (k + 1) (k + 1) k0 A L a l F := by
  have h' : DPart w T n k (k + 1) (k + 1) k0 A L a l F := ⟨h.row, h.sl, h.mrk, h.actM, h.lnkM, h.act, fun i hi => h.lnk i (by omega)⟩
  have h2 : DPart w' T n k (k + 1) (k + 1) k0 A L a l F := by
    refine h'.move (h.row.touch ht fun e => (hP.apart k hk).2 e.1 e.2.symm) (fun _ _ => ⟨rfl, rfl⟩) (fun _ _ _ _ => rfl) ht (fun i hi h1 hz e => hP.cross i k hi hk hz e.1 e.2) (fun i hi h1 hz e => ?_) (by omega)
    exact (hP.each i k hi hk (by omega)).2 hz e.1 e.2
  subst hq
  refine ⟨h2.row, h2.sl, fun i hi => ?_, fun i hi hz => ?_, fun i hi hz => ?_, h2.act, h2.lnk⟩
  · by_cases e : i = k
    · subst e
      exact ⟨e0, e1, e2, e3⟩
    · exact h2.mrk i (by omega)
  · by_cases e : i = k
    · subst e
      exact (hA.resolve_left hz).touch ht fun e => hP.cross i i hk hk hz e.1 e.2
    · exact h2.actM i (by omega) hz
  · by_cases e : i = k
    · subst e
      exact hL.resolve_left hz
    · exact h2.lnkM i (by omega) hz

end Go.Proofs.YtkgddbcjmejfaaaGreatDoor.Vp

/-
  Marks of deeds and accounts: the walk.
-/
namespace Go.Proofs.YtkgddbcjmejfaaaGreatDoor.Vp
open Go.RowKit

set_option maxRecDepth 100000 in
set_option maxHeartbeats 8000000 in
theorem markDeedS_row (T n cap k0 : Nat) (A L a l : Nat → Nat) (w : World) (hn : (n : Int) ≤ 1048576) (h1 : 1 ≤ (k0 : Int)) (h2 : (k0 : Int) ≤ 1125899906842624) (hP : DPlan T n A L a l) (hC : DCells w T n A L a l) :
    Calls Tryz.prog 28 #[.slice (some ⟨T, 0, none⟩) n cap, .int .i64 k0] w fun e w' => e = .returned (.int .i64 ((dAt a l k0 n : Nat) : Int)) ∧ DMarked w' T n A L a l k0 ∧ Touch (DBlk T n A L a l) w w' := by
  have HC := hide hC
  have HP := hide hP
  clear hC hP
  go_enter Tryz.func28, Tryz.ntmps28
  go_wp2
  go_loopw [1, 5] (fun v i wr => ∃ (k q : Nat) (F : Nat → Value), k ≤ n ∧ Hid (q = dAt a l k0 k) ∧ i = .int .i64 k ∧ v = .int .i64 q ∧ Hid (DPart wr T n k k k k0 A L a l F) ∧ Hid (Touch (DBlk T n A L a l) w wr)) (fun _ i _ => n - (intOf i).toNat)
  case atStart =>
    obtain ⟨⟨F, hF, hs⟩, ha, hl⟩ := HC.out
    exact ⟨0, k0, F, by omega, rfl, rfl, rfl, ⟨hF, hs, fun i hi => absurd hi (Nat.not_lt_zero _), fun i hi => absurd hi (Nat.not_lt_zero _), fun i hi => absurd hi (Nat.not_lt_zero _), fun i _ hi => ha i hi, fun i _ hi => hl i hi⟩, Touch.refl _ _⟩
  case round =>
    obtain ⟨k, q, F, hk, HQ, rfl, rfl, HD, HW⟩ := hrel
    have hq1 : 1 ≤ (q : Int) := by have := HQ.out; have := dAt_ge (a := a) (l := l) (k0 := k0) (n := k); omega
    have hq2 : (q : Int) ≤ 1152921504600000000 := by have := HQ.out; have := dAt_le (a := a) (l := l) (k0 := k0) (n := k) (fun i hi => (HP.out.fit i (by omega)).1) (fun i hi => (HP.out.fit i (by omega)).2); omega
    by_cases hlt : k < n
    · have hkk : k * 6 + 6 ≤ n * 6 := by omega
      obtain ⟨hak, hlk⟩ := HP.out.fit k hlt
      obtain ⟨⟨pa, ca, hpa, ea⟩, pl, cl, hpl, el⟩ := HD.out.sl k hlt
      have EA := hide ea
      have EL := hide el
      clear ea el
      obtain ⟨c0, z0⟩ := HD.out.row.at (k * 6) (k * 6) (by omega) (by omega)
      go_wp2_with fail
      refine (markText_int (q : Int) _ (by omega) (by omega)).mono ?_
      rintro e w1 ⟨rfl, hB1⟩
      have D1 := hide (HD.out.below hB1 (Nat.le_refl _) hk)
      have W1 := hide (HW.out.below hB1 (Nat.le_refl _))
      clear hB1 c0 z0
      obtain ⟨c0, z0⟩ := D1.out.row.at (k * 6) (k * 6) (by omega) (by omega)
      obtain ⟨c1, z1⟩ := D1.out.row.at (k * 6 + 1) (k * 6 + 1) (by omega) (by omega)
      obtain ⟨c2, z2⟩ := D1.out.row.at (k * 6 + 2) (k * 6 + 2) (by omega) (by omega)
      obtain ⟨c3, z3⟩ := D1.out.row.at (k * 6 + 3) (k * 6 + 3) (by omega) (by omega)
      have S1 := hide (((D1.out.setCell HP.out hlt (k * 6) 0 (by omega) (by omega) (.string (mkT (q : Int)))).setCell HP.out hlt (k * 6 + 1) 1 (by omega) (by omega) (.int .i64 ((q : Int) + 1))).setCell HP.out hlt (k * 6 + 2) 2 (by omega) (by omega) (.int .i64 ((q : Int) + 1 + 1)))
      have X1 := hide (((W1.out.setCell (p := ⟨T, k * 6, none⟩) (.inl rfl) (.string (mkT (q : Int)))).setCell (p := ⟨T, k * 6 + 1, none⟩) (.inl rfl) (.int .i64 ((q : Int) + 1))).setCell (p := ⟨T, k * 6 + 2, none⟩) (.inl rfl) (.int .i64 ((q : Int) + 1 + 1)))
      go_wp2_with fail
      generalize ((w1.setCell ⟨T, k * 6, none⟩ (.string (mkT (q : Int)))).setCell ⟨T, k * 6 + 1, none⟩ (.int .i64 ((q : Int) + 1))).setCell ⟨T, k * 6 + 2, none⟩ (.int .i64 ((q : Int) + 1 + 1)) = v1 at S1 X1 ⊢
      clear D1 W1 c0 z0 c1 z1 c2 z2 c3 z3
      refine (markText_int ((q : Int) + 1 + 1 + 1) _ (by omega) (by omega)).mono ?_
      rintro e w2 ⟨rfl, hB2⟩
      have D2 := hide (S1.out.below hB2 (Nat.le_refl _) hk)
      have W2 := hide (X1.out.below hB2 (Nat.le_refl _))
      clear hB2 S1 X1
      obtain ⟨c3, z3⟩ := D2.out.row.at (k * 6 + 3) (k * 6 + 3) (by omega) (by omega)
      have S2 := hide (D2.out.setCell HP.out hlt (k * 6 + 3) 3 (by omega) (by omega) (.string (mkT ((q : Int) + 1 + 1 + 1))))
      have X2 := hide (W2.out.setCell (p := ⟨T, k * 6 + 3, none⟩) (.inl rfl) (.string (mkT ((q : Int) + 1 + 1 + 1))))
      have c4 : (w2.setCell ⟨T, k * 6 + 3, none⟩ (.string (mkT ((q : Int) + 1 + 1 + 1)))).cell? ⟨T, k * 6 + 4, none⟩ = some (.slice pa (a k) ca) := by
        have := (S2.out.row.at (k * 6 + 4) (k * 6 + 4) (by omega) (by omega)).1
        rw [if_neg (by omega), if_neg (by omega), if_neg (by omega), if_neg (by omega), hpa] at this
        exact this
      go_wp2_with fail
      generalize w2.setCell ⟨T, k * 6 + 3, none⟩ (.string (mkT ((q : Int) + 1 + 1 + 1))) = v2 at S2 X2 c4 ⊢
      clear D2 W2 c3 z3
      first | rw [show (q : Int) + 1 + 1 + 1 + 1 = ((q + 4 : Nat) : Int) by omega] | rw [show (q : Int) + 4 = ((q + 4 : Nat) : Int) by omega]
      refine (markInsS_sl pa (a k) ca (q + 4) (A k) _ (by omega) (by omega) (by omega) (by by_cases hz : a k = 0; exact .inl hz; exact .inr ⟨EA.out hz, S2.out.act k (Nat.le_refl _) hlt hz⟩)).mono ?_
      rintro e w3 ⟨rfl, hM3, hT3⟩
      have D3 := hide (S2.out.acted HP.out hlt hT3)
      have W3 := hide (X2.out.trans (hT3.mono fun x hx => .inr ⟨k, hlt, .inl hx⟩))
      have M3 := hide hM3
      clear hM3 hT3 S2 X2 c4
      have c5 : w3.cell? ⟨T, k * 6 + 5, none⟩ = some (.slice pl (l k) cl) := by
        have := (D3.out.row.at (k * 6 + 5) (k * 6 + 5) (by omega) (by omega)).1
        rw [if_neg (by omega), if_neg (by omega), if_neg (by omega), if_neg (by omega), hpl] at this
        exact this
      go_wp2_with fail
      refine (markLinkS_sl pl (l k) cl (q + 4 + a k * 3) (L k) _ (by omega) (by omega) (by omega) (by by_cases hz : l k = 0; exact .inl hz; exact .inr ⟨EL.out hz, D3.out.lnk k (Nat.le_refl _) hlt hz⟩)).mono ?_
      rintro e w4 ⟨rfl, hM4, hT4⟩
      have D4 := hide (D3.out.linked HP.out hlt hT4 HQ.out M3.out hM4 (by rw [if_neg (by omega), if_neg (by omega), if_neg (by omega)]; exact if_pos rfl) (by rw [if_neg (by omega), if_neg (by omega), if_pos rfl]) (by rw [if_neg (by omega), if_pos rfl]) (by rw [if_pos rfl]))
      have W4 := hide (W3.out.trans (hT4.mono fun x hx => .inr ⟨k, hlt, .inr hx⟩))
      have HE : Hid (q + 4 + a k * 3 + l k * 4 = dAt a l k0 (k + 1)) := by show _ = dAt a l k0 k + 4 + a k * 3 + l k * 4; rw [HQ.out]
      clear hM4 hT4 D3 W3 M3 c5 hpa hpl
      go_wp2
      exact ⟨⟨k + 1, q + 4 + a k * 3 + l k * 4, _, by omega, HE.out, by go_num, rfl, D4.out, W4.out⟩, by simp [intOf]; omega⟩
    · have e : k = n := by omega
      subst e
      have HV : Hid ((q : Int) = ((dAt a l k0 k : Nat) : Int)) := by show (q : Int) = _; rw [HQ.out]
      go_wp2
      go_ret
      exact ⟨by show Ending.returned (.int .i64 (q : Int)) = _; rw [HV.out], ⟨⟨F, HD.out.row, fun i hi => ⟨(HD.out.mrk i hi).1, (HD.out.mrk i hi).2.1, (HD.out.mrk i hi).2.2.1, (HD.out.mrk i hi).2.2.2, (HD.out.sl i hi).1, (HD.out.sl i hi).2⟩⟩, HD.out.actM, HD.out.lnkM⟩, HW.out⟩

end Go.Proofs.YtkgddbcjmejfaaaGreatDoor.Vp

/-
  Marks of accounts.
-/
namespace Go.Proofs.YtkgddbcjmejfaaaGreatDoor.Vp
open Go.RowKit

set_option maxRecDepth 100000 in
set_option maxHeartbeats 4000000 in
theorem markAccount_row (T n cap k0 : Nat) (A L a l : Nat → Nat) (w : World) (hn : (n : Int) ≤ 1048576) (h1 : 1 ≤ (k0 : Int)) (h2 : (k0 : Int) ≤ 1125899906842624) (hP : DPlan T n A L a l) (hC : DCells w T n A L a l) :
    Calls Tryz.prog 19 #[.agg #[.slice (some ⟨T, 0, none⟩) n cap], .int .i64 k0] w fun e w' => e = .returned (.int .i64 ((dAt a l k0 n : Nat) : Int)) ∧ DMarked w' T n A L a l k0 ∧ Touch (DBlk T n A L a l) w w' := by
  have A0 := hide ((Below.refl w.heap.size w).alloc (Nat.le_refl _) (.cells #[.slice (some ⟨T, 0, none⟩) n cap] 40))
  have HC := hide (hC.below A0.out (Nat.le_refl _))
  have HP := hide hP
  clear hC hP
  go_enter Tryz.func19, Tryz.ntmps19
  go_wp2_with fail
  refine (markDeedS_row T n cap k0 A L a l _ hn h1 h2 HP.out HC.out).mono ?_
  rintro e w1 ⟨rfl, hM, hT⟩
  have M1 := hide hM
  have T1 := hide ((Touch.of_below A0.out (Nat.le_refl _)).trans hT)
  clear hM hT
  go_wp2
  go_ret
  exact ⟨rfl, M1.out, T1.out⟩

end Go.Proofs.YtkgddbcjmejfaaaGreatDoor.Vp

/-
  The marks of a copy.
-/
namespace Go.Proofs.YtkgddbcjmejfaaaGreatDoor.Vp
open Go.RowKit

theorem OwnDeed2.plan {w : World} {g n N : Nat} {f : Nat → Deed} (h : OwnDeed2 w g n n N f) (hf : ∀ i, i < n → FitsDeed (f i)) : ∃ A L : Nat → Nat, DPlan g n A L (fun i => (f i).actN) (fun i => (f i).linksN) ∧ DCells w g n A L (fun i => (f i).actN) (fun i => (f i).linksN) ∧ ∀ x, DBlk g n A L (fun i => (f i).actN) (fun i => (f i).linksN) x → g ≤ x ∧ (x = g ∨ x < N) := by
  obtain ⟨F, G0, G1, hr, ha, hN, hF⟩ := h
  refine ⟨G0, G1, ⟨fun i hi => hf i hi, fun i hi => ⟨fun _ => ?_, fun _ => ?_⟩, fun i j hi hj hij => ⟨fun _ _ => ?_, fun _ _ => ?_⟩, fun i j hi hj _ _ => ?_⟩, ⟨⟨F, cells_of_row hr, fun i hi => ?_⟩, fun i hi _ => ?_, fun i hi _ => ?_⟩, fun x hx => ?_⟩
  · have := (hF i hi).2.2.2.2.1.2.2; omega
  · have := (hF i hi).2.2.2.2.2.2.2; omega
  · rcases Nat.lt_or_gt_of_ne hij with h | h
    · have := (ha i j h hj).1; omega
    · have := (ha j i h hi).1; omega
  · rcases Nat.lt_or_gt_of_ne hij with h | h
    · have := (ha i j h hj).2; omega
    · have := (ha j i h hi).2; omega
  · exact ins_link (hF i hi).2.2.2.2.1.2.1 (hF j hj).2.2.2.2.2.2.1
  · exact ⟨⟨_, _, (hF i hi).2.2.2.2.1.1, fun _ => rfl⟩, ⟨_, _, (hF i hi).2.2.2.2.2.1, fun _ => rfl⟩⟩
  · exact (hF i hi).2.2.2.2.1.2.1.cells
  · exact (hF i hi).2.2.2.2.2.2.1.cells
  · rcases hx with rfl | ⟨i, hi, ⟨_, rfl⟩ | ⟨_, rfl⟩⟩
    · exact ⟨Nat.le_refl _, .inl rfl⟩
    · have h1 := (hF i hi).2.2.2.2.1.2.2
      exact ⟨by omega, .inr (hN i hi).1⟩
    · have h1 := (hF i hi).2.2.2.2.2.2.2
      exact ⟨by omega, .inr (hN i hi).2⟩
/-- An account that was copied is marked: no block is touched that was there before or is there behind. -/
theorem markAccount_own (g n N : Nat) (f : Nat → Deed) (w : World) (hn : (n : Int) ≤ 1048576) (hf : ∀ i, i < n → FitsDeed (f i)) (h : OwnDeed2 w g n n N f) (hN : g < N) :
    Calls Tryz.prog 19 #[.agg #[.slice (some ⟨g, 0, none⟩) n n], .int .i64 1] w fun e w' => ∃ q : Nat, e = .returned (.int .i64 q) ∧ Touch (fun x => g ≤ x ∧ x < N) w w' := by
  obtain ⟨A, L, hP, hC, hB⟩ := h.plan hf
  refine (markAccount_row g n n 1 A L _ _ w hn (by omega) (by omega) hP hC).mono ?_
  rintro e w' ⟨rfl, -, hT⟩
  exact ⟨_, rfl, hT.mono fun x hx => ⟨(hB x hx).1, by rcases (hB x hx).2 with h | h <;> omega⟩⟩

end Go.Proofs.YtkgddbcjmejfaaaGreatDoor.Vp
