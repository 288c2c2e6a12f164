/-
  Put together of: MDeedA, MDeed, DRowS, MStr, DEqStr, VpWord, VpOk, VpSpec, DName, CaPure, NmPure, DOne, NmPut, NmKit, VpTab, VpImpl, VpSl, CaName, CaRight, CaDeed, CaNew.
-/
import Derived.Test.YtggchgpphhhleaaDoorZA
import Derived.Sort.Walk0
import Derived.Sort.EncStr
import Derived.OneCell
import Derived.OwnWalk
import Derived.Maps.AppendAt
import Derived.Deep.RegionLaw
import Derived.Deep.DeepCutAuto
import Derived.Deep.QuietTactic
import Derived.BigQuiet
import Derived.Maps.OwnSet
import Derived.Maps.Views
import Derived.StringKeys

/-
  Marks of deeds and accounts.
-/
namespace Go.Proofs.YtggchgpphhhleaaDoor.Vp
open Go.RowKit

/-- The mark of deed i's name. -/
def dAt (a l : Nat → Nat) (k0 : Nat) : Nat → Nat
  | 0 => k0
  | i + 1 => dAt a l k0 i + 4 + a i * 3 + l i * 4
theorem dAt_le {a l : Nat → Nat} {k0 n : Nat} (ha : ∀ i, i < n → a i ≤ 1048576) (hl : ∀ i, i < n → l i ≤ 1048576) : dAt a l k0 n ≤ k0 + n * 7340036 := by
  induction n with
  | zero => simp [dAt]
  | succ j ih =>
    have h1 := ih (fun i hi => ha i (by omega)) (fun i hi => hl i (by omega))
    have h2 := ha j (by omega)
    have h3 := hl j (by omega)
    simp only [dAt]
    omega
theorem dAt_ge {a l : Nat → Nat} {k0 n : Nat} : k0 ≤ dAt a l k0 n := by
  induction n with
  | zero => exact Nat.le_refl _
  | succ j ih =>
    simp only [dAt]
    omega

theorem markInsS_sl (p : Option Addr) (n cap k0 b : Nat) (w : World) (hn : (n : Int) ≤ 1048576) (h1 : 1 ≤ (k0 : Int)) (h2 : (k0 : Int) ≤ 1152921504606846976) (h : Room w p n b (n * 3)) :
    Calls Tryd.prog 63 #[.slice p n cap, .int .i64 k0] w fun e w' => e = .returned (.int .i64 ((k0 + n * 3 : Nat) : Int)) ∧ (n = 0 ∨ Cells w' b 0 (n * 3) (markIns k0)) ∧ Touch (fun x => n ≠ 0 ∧ x = b) w w' := by
  by_cases hz : n = 0
  · subst hz
    exact (markInsS_nil p cap k0 w).mono fun e w' ⟨a, b⟩ => ⟨by simpa using a, .inl rfl, by rw [b]; exact Touch.refl _ _⟩
  · obtain ⟨rfl, G, hG⟩ := h.resolve_left hz
    exact (markInsS_row b 0 n cap k0 G w hn h1 h2 hG).mono fun e w' ⟨x, y, z⟩ => ⟨x, .inr y, Touch.of_within z ⟨hz, rfl⟩⟩
theorem markLinkS_sl (p : Option Addr) (n cap k0 b : Nat) (w : World) (hn : (n : Int) ≤ 1048576) (h1 : 1 ≤ (k0 : Int)) (h2 : (k0 : Int) ≤ 1152921504606846976) (h : Room w p n b (n * 4)) :
    Calls Tryd.prog 64 #[.slice p n cap, .int .i64 k0] w fun e w' => e = .returned (.int .i64 ((k0 + n * 4 : Nat) : Int)) ∧ (n = 0 ∨ Cells w' b 0 (n * 4) (markLink k0)) ∧ Touch (fun x => n ≠ 0 ∧ x = b) w w' := by
  by_cases hz : n = 0
  · subst hz
    exact (markLinkS_nil p cap k0 w).mono fun e w' ⟨a, b⟩ => ⟨by simpa using a, .inl rfl, by rw [b]; exact Touch.refl _ _⟩
  · obtain ⟨rfl, G, hG⟩ := h.resolve_left hz
    exact (markLinkS_row b 0 n cap k0 G w hn h1 h2 hG).mono fun e w' ⟨x, y, z⟩ => ⟨x, .inr y, Touch.of_within z ⟨hz, rfl⟩⟩

/-- What is fixed of n deeds in block T: their rows of instructions (A, a) and of links (L, l); all apart. -/
structure DPlan (T n : Nat) (A L a l : Nat → Nat) : Prop where
  fit : ∀ i, i < n → a i ≤ 1048576 ∧ l i ≤ 1048576
  apart : ∀ i, i < n → (a i ≠ 0 → A i ≠ T) ∧ (l i ≠ 0 → L i ≠ T)
  each : ∀ i j, i < n → j < n → i ≠ j → (a i ≠ 0 → a j ≠ 0 → A i ≠ A j) ∧ (l i ≠ 0 → l j ≠ 0 → L i ≠ L j)
  cross : ∀ i j, i < n → j < n → a i ≠ 0 → l j ≠ 0 → A i ≠ L j
/-- The blocks of the plan. -/
def DBlk (T n : Nat) (A L a l : Nat → Nat) (x : Nat) : Prop := x = T ∨ ∃ i, i < n ∧ ((a i ≠ 0 ∧ x = A i) ∨ (l i ≠ 0 ∧ x = L i))
/-- Cells of n deeds in block T. -/
structure DCells (w : World) (T n : Nat) (A L a l : Nat → Nat) : Prop where
  row : ∃ F, Cells w T 0 (n * 6) F ∧ ∀ i, i < n → (∃ p cap, F (i * 6 + 4) = .slice p (a i) cap ∧ (a i ≠ 0 → p = some ⟨A i, 0, none⟩)) ∧ ∃ p cap, F (i * 6 + 5) = .slice p (l i) cap ∧ (l i ≠ 0 → p = some ⟨L i, 0, none⟩)
  act : ∀ i, i < n → a i ≠ 0 → ∃ G, Cells w (A i) 0 (a i * 3) G
  lnk : ∀ i, i < n → l i ≠ 0 → ∃ G, Cells w (L i) 0 (l i * 4) G
/-- .. marked from k0 on. -/
structure DMarked (w : World) (T n : Nat) (A L a l : Nat → Nat) (k0 : Nat) : Prop where
  row : ∃ F, Cells w T 0 (n * 6) F ∧ ∀ i, i < n → F (i * 6) = .string (mkT ((dAt a l k0 i : Nat) : Int)) ∧ F (i * 6 + 1) = .int .i64 ((dAt a l k0 i + 1 : Nat) : Int) ∧ F (i * 6 + 2) = .int .i64 ((dAt a l k0 i + 2 : Nat) : Int) ∧ F (i * 6 + 3) = .string (mkT ((dAt a l k0 i + 3 : Nat) : Int)) ∧ (∃ p cap, F (i * 6 + 4) = .slice p (a i) cap ∧ (a i ≠ 0 → p = some ⟨A i, 0, none⟩)) ∧ ∃ p cap, F (i * 6 + 5) = .slice p (l i) cap ∧ (l i ≠ 0 → p = some ⟨L i, 0, none⟩)
  act : ∀ i, i < n → a i ≠ 0 → Cells w (A i) 0 (a i * 3) (markIns (dAt a l k0 i + 4))
  lnk : ∀ i, i < n → l i ≠ 0 → Cells w (L i) 0 (l i * 4) (markLink (dAt a l k0 i + 4 + a i * 3))
theorem DMarked.below {w w' : World} {T n k0 Z : Nat} {A L a l : Nat → Nat} (h : DMarked w T n A L a l k0) (hb : Below Z w w') (hZ : w.heap.size ≤ Z) : DMarked w' T n A L a l k0 := by
  obtain ⟨⟨F, hF, h1⟩, h2, h3⟩ := h
  exact ⟨⟨F, hF.below hb (Nat.lt_of_lt_of_le hF.1 hZ), h1⟩, fun i hi hz => (h2 i hi hz).below hb (Nat.lt_of_lt_of_le (h2 i hi hz).1 hZ), fun i hi hz => (h3 i hi hz).below hb (Nat.lt_of_lt_of_le (h3 i hi hz).1 hZ)⟩
theorem DCells.below {w w' : World} {T n Z : Nat} {A L a l : Nat → Nat} (h : DCells w T n A L a l) (hb : Below Z w w') (hZ : w.heap.size ≤ Z) : DCells w' T n A L a l := by
  obtain ⟨⟨F, hF, h1⟩, h2, h3⟩ := h
  refine ⟨⟨F, hF.below hb (Nat.lt_of_lt_of_le hF.1 hZ), h1⟩, fun i hi hz => ?_, fun i hi hz => ?_⟩
  · obtain ⟨G, hG⟩ := h2 i hi hz
    exact ⟨G, hG.below hb (Nat.lt_of_lt_of_le hG.1 hZ)⟩
  · obtain ⟨G, hG⟩ := h3 i hi hz
    exact ⟨G, hG.below hb (Nat.lt_of_lt_of_le hG.1 hZ)⟩

/-- What stands behind k of n deeds; the rows of instructions from ka on and those of links from kl on are still as they were. -/
structure DPart (w : World) (T n k ka kl k0 : Nat) (A L a l : Nat → Nat) (F : Nat → Value) : Prop where
  row : Cells w T 0 (n * 6) F
  sl : ∀ i, i < n → (∃ p cap, F (i * 6 + 4) = .slice p (a i) cap ∧ (a i ≠ 0 → p = some ⟨A i, 0, none⟩)) ∧ ∃ p cap, F (i * 6 + 5) = .slice p (l i) cap ∧ (l i ≠ 0 → p = some ⟨L i, 0, none⟩)
  mrk : ∀ i, i < k → F (i * 6) = .string (mkT ((dAt a l k0 i : Nat) : Int)) ∧ F (i * 6 + 1) = .int .i64 ((dAt a l k0 i + 1 : Nat) : Int) ∧ F (i * 6 + 2) = .int .i64 ((dAt a l k0 i + 2 : Nat) : Int) ∧ F (i * 6 + 3) = .string (mkT ((dAt a l k0 i + 3 : Nat) : Int))
  actM : ∀ i, i < k → a i ≠ 0 → Cells w (A i) 0 (a i * 3) (markIns (dAt a l k0 i + 4))
  lnkM : ∀ i, i < k → l i ≠ 0 → Cells w (L i) 0 (l i * 4) (markLink (dAt a l k0 i + 4 + a i * 3))
  act : ∀ i, ka ≤ i → i < n → a i ≠ 0 → ∃ G, Cells w (A i) 0 (a i * 3) G
  lnk : ∀ i, kl ≤ i → i < n → l i ≠ 0 → ∃ G, Cells w (L i) 0 (l i * 4) G
theorem DPart.move {w w' : World} {T n k ka kl k0 : Nat} {A L a l : Nat → Nat} {F F' : Nat → Value} (h : DPart w T n k ka kl k0 A L a l F) (hr : Cells w' T 0 (n * 6) F') (hs : ∀ i, i < n → F' (i * 6 + 4) = F (i * 6 + 4) ∧ F' (i * 6 + 5) = F (i * 6 + 5)) (hm : ∀ i, i < k → ∀ j, j < 4 → F' (i * 6 + j) = F (i * 6 + j)) {Q : Nat → Prop} (ht : Touch Q w w') (hA : ∀ i, i < n → (i < k ∨ ka ≤ i) → a i ≠ 0 → ¬ Q (A i)) (hL : ∀ i, i < n → (i < k ∨ kl ≤ i) → l i ≠ 0 → ¬ Q (L i)) (hk : k ≤ n) : DPart w' T n k ka kl k0 A L a l F' := by
  refine ⟨hr, fun i hi => ?_, fun i hi => ?_, fun i hi hz => (h.actM i hi hz).touch ht (hA i (by omega) (.inl hi) hz), fun i hi hz => (h.lnkM i hi hz).touch ht (hL i (by omega) (.inl hi) hz), fun i h1 h2 hz => ?_, fun i h1 h2 hz => ?_⟩
  · rw [(hs i hi).1, (hs i hi).2]
    exact h.sl i hi
  · have e0 : F' (i * 6) = F (i * 6) := hm i hi 0 (by omega)
    rw [e0, hm i hi 1 (by omega), hm i hi 2 (by omega), hm i hi 3 (by omega)]
    exact h.mrk i hi
  · obtain ⟨G, hG⟩ := h.act i h1 h2 hz
    exact ⟨G, hG.touch ht (hA i h2 (.inr h1) hz)⟩
  · obtain ⟨G, hG⟩ := h.lnk i h1 h2 hz
    exact ⟨G, hG.touch ht (hL i h2 (.inr h1) hz)⟩
theorem DPart.below {w w' : World} {T n k ka kl k0 Z : Nat} {A L a l : Nat → Nat} {F : Nat → Value} (h : DPart w T n k ka kl k0 A L a l F) (hb : Below Z w w') (hZ : w.heap.size ≤ Z) (hk : k ≤ n) : DPart w' T n k ka kl k0 A L a l F :=
  h.move (h.row.below hb (Nat.lt_of_lt_of_le h.row.1 hZ)) (fun _ _ => ⟨rfl, rfl⟩) (fun _ _ _ _ => rfl) (Q := fun _ => False) (Touch.of_below hb hZ) (fun _ _ _ _ h => h) (fun _ _ _ _ h => h) hk
/-- A mark in cell j of deed k. -/
theorem DPart.setCell {w : World} {T n k ka kl k0 : Nat} {A L a l : Nat → Nat} {F : Nat → Value} (h : DPart w T n k ka kl k0 A L a l F) (hP : DPlan T n A L a l) (hk : k < n) (x j : Nat) (hx : x = 0 + (k * 6 + j)) (hj : j < 4) (v : Value) : DPart (w.setCell ⟨T, x, none⟩ v) T n k ka kl k0 A L a l (fun y => if y = k * 6 + j then v else F y) := by
  have hr := h.row.setAt x (k * 6 + j) hx (by omega) v
  refine h.move hr (fun i hi => ⟨?_, ?_⟩) (fun i hi y hy => ?_) (Q := fun y => y = T) ((Touch.refl (fun y => y = T) w).setCell (p := ⟨T, x, none⟩) rfl v) (fun i hi _ hz => (hP.apart i hi).1 hz) (fun i hi _ hz => (hP.apart i hi).2 hz) (by omega)
  · exact if_neg (by omega)
  · exact if_neg (by omega)
  · exact if_neg (by omega)
/-- The row of instructions of deed k is marked. -/
theorem DPart.acted {w w' : World} {T n k k0 : Nat} {A L a l : Nat → Nat} {F : Nat → Value} (h : DPart w T n k k k k0 A L a l F) (hP : DPlan T n A L a l) (hk : k < n) (ht : Touch (fun x => a k ≠ 0 ∧ x = A k) w w') : DPart w' T n k (k + 1) k k0 A L a l F := by
  have h' : DPart w T n k (k + 1) k k0 A L a l F := ⟨h.row, h.sl, h.mrk, h.actM, h.lnkM, fun i hi => h.act i (by omega), h.lnk⟩
  refine h'.move (h.row.touch ht fun e => (hP.apart k hk).1 e.1 e.2.symm) (fun _ _ => ⟨rfl, rfl⟩) (fun _ _ _ _ => rfl) ht (fun i hi h1 hz e => ?_) (fun i hi h1 hz e => hP.cross k i hk hi e.1 hz e.2.symm) (by omega)
  exact (hP.each i k hi hk (by omega)).1 hz e.1 e.2
/-- .. and its links. -/
theorem DPart.linked {w w' : World} {T n k k0 q : Nat} {A L a l : Nat → Nat} {F : Nat → Value} (h : DPart w T n k (k + 1) k k0 A L a l F) (hP : DPlan T n A L a l) (hk : k < n) (ht : Touch (fun x => l k ≠ 0 ∧ x = L k) w w') (hq : q = dAt a l k0 k)
    (hA : a k = 0 ∨ Cells w (A k) 0 (a k * 3) (markIns (q + 4))) (hL : l k = 0 ∨ Cells w' (L k) 0 (l k * 4) (markLink (q + 4 + a k * 3)))
    (e0 : F (k * 6) = .string (mkT (q : Int))) (e1 : F (k * 6 + 1) = .int .i64 ((q : Int) + 1)) (e2 : F (k * 6 + 2) = .int .i64 ((q : Int) + 1 + 1)) (e3 : F (k * 6 + 3) = .string (mkT ((q : Int) + 1 + 1 + 1))) : DPart w' T n (k + 1) (k + 1) (k + 1) k0 A L a l F := by
  have h' : DPart w T n k (k + 1) (k + 1) k0 A L a l F := ⟨h.row, h.sl, h.mrk, h.actM, h.lnkM, h.act, fun i hi => h.lnk i (by omega)⟩
  have h2 : DPart w' T n k (k + 1) (k + 1) k0 A L a l F := by
    refine h'.move (h.row.touch ht fun e => (hP.apart k hk).2 e.1 e.2.symm) (fun _ _ => ⟨rfl, rfl⟩) (fun _ _ _ _ => rfl) ht (fun i hi h1 hz e => hP.cross i k hi hk hz e.1 e.2) (fun i hi h1 hz e => ?_) (by omega)
    exact (hP.each i k hi hk (by omega)).2 hz e.1 e.2
  subst hq
  refine ⟨h2.row, h2.sl, fun i hi => ?_, fun i hi hz => ?_, fun i hi hz => ?_, h2.act, h2.lnk⟩
  · by_cases e : i = k
    · subst e
      exact ⟨e0, e1, e2, e3⟩
    · exact h2.mrk i (by omega)
  · by_cases e : i = k
    · subst e
      exact (hA.resolve_left hz).touch ht fun e => hP.cross i i hk hk hz e.1 e.2
    · exact h2.actM i (by omega) hz
  · by_cases e : i = k
    · subst e
      exact hL.resolve_left hz
    · exact h2.lnkM i (by omega) hz

end Go.Proofs.YtggchgpphhhleaaDoor.Vp

/-
  Marks of deeds and accounts: the walk.
-/
namespace Go.Proofs.YtggchgpphhhleaaDoor.Vp
open Go.RowKit

set_option maxRecDepth 100000 in
set_option maxHeartbeats 8000000 in
theorem markDeedS_row (T n cap k0 : Nat) (A L a l : Nat → Nat) (w : World) (hn : (n : Int) ≤ 1048576) (h1 : 1 ≤ (k0 : Int)) (h2 : (k0 : Int) ≤ 1125899906842624) (hP : DPlan T n A L a l) (hC : DCells w T n A L a l) :
    Calls Tryd.prog 46 #[.slice (some ⟨T, 0, none⟩) n cap, .int .i64 k0] w fun e w' => e = .returned (.int .i64 ((dAt a l k0 n : Nat) : Int)) ∧ DMarked w' T n A L a l k0 ∧ Touch (DBlk T n A L a l) w w' := by
  have HC := hide hC
  have HP := hide hP
  clear hC hP
  go_enter Tryd.func46, Tryd.ntmps46
  go_wp2
  go_loopw [1, 5] (fun v i wr => ∃ (k q : Nat) (F : Nat → Value), k ≤ n ∧ Hid (q = dAt a l k0 k) ∧ i = .int .i64 k ∧ v = .int .i64 q ∧ Hid (DPart wr T n k k k k0 A L a l F) ∧ Hid (Touch (DBlk T n A L a l) w wr)) (fun _ i _ => n - (intOf i).toNat)
  case atStart =>
    obtain ⟨⟨F, hF, hs⟩, ha, hl⟩ := HC.out
    exact ⟨0, k0, F, by omega, rfl, rfl, rfl, ⟨hF, hs, fun i hi => absurd hi (Nat.not_lt_zero _), fun i hi => absurd hi (Nat.not_lt_zero _), fun i hi => absurd hi (Nat.not_lt_zero _), fun i _ hi => ha i hi, fun i _ hi => hl i hi⟩, Touch.refl _ _⟩
  case round =>
    obtain ⟨k, q, F, hk, HQ, rfl, rfl, HD, HW⟩ := hrel
    have hq1 : 1 ≤ (q : Int) := by have := HQ.out; have := dAt_ge (a := a) (l := l) (k0 := k0) (n := k); omega
    have hq2 : (q : Int) ≤ 1152921504600000000 := by have := HQ.out; have := dAt_le (a := a) (l := l) (k0 := k0) (n := k) (fun i hi => (HP.out.fit i (by omega)).1) (fun i hi => (HP.out.fit i (by omega)).2); omega
    by_cases hlt : k < n
    · have hkk : k * 6 + 6 ≤ n * 6 := by omega
      obtain ⟨hak, hlk⟩ := HP.out.fit k hlt
      obtain ⟨⟨pa, ca, hpa, ea⟩, pl, cl, hpl, el⟩ := HD.out.sl k hlt
      have EA := hide ea
      have EL := hide el
      clear ea el
      obtain ⟨c0, z0⟩ := HD.out.row.at (k * 6) (k * 6) (by omega) (by omega)
      go_wp2_with fail
      refine (markText_int (q : Int) _ (by omega) (by omega)).mono ?_
      rintro e w1 ⟨rfl, hB1⟩
      have D1 := hide (HD.out.below hB1 (Nat.le_refl _) hk)
      have W1 := hide (HW.out.below hB1 (Nat.le_refl _))
      clear hB1 c0 z0
      obtain ⟨c0, z0⟩ := D1.out.row.at (k * 6) (k * 6) (by omega) (by omega)
      obtain ⟨c1, z1⟩ := D1.out.row.at (k * 6 + 1) (k * 6 + 1) (by omega) (by omega)
      obtain ⟨c2, z2⟩ := D1.out.row.at (k * 6 + 2) (k * 6 + 2) (by omega) (by omega)
      obtain ⟨c3, z3⟩ := D1.out.row.at (k * 6 + 3) (k * 6 + 3) (by omega) (by omega)
      have S1 := hide (((D1.out.setCell HP.out hlt (k * 6) 0 (by omega) (by omega) (.string (mkT (q : Int)))).setCell HP.out hlt (k * 6 + 1) 1 (by omega) (by omega) (.int .i64 ((q : Int) + 1))).setCell HP.out hlt (k * 6 + 2) 2 (by omega) (by omega) (.int .i64 ((q : Int) + 1 + 1)))
      have X1 := hide (((W1.out.setCell (p := ⟨T, k * 6, none⟩) (.inl rfl) (.string (mkT (q : Int)))).setCell (p := ⟨T, k * 6 + 1, none⟩) (.inl rfl) (.int .i64 ((q : Int) + 1))).setCell (p := ⟨T, k * 6 + 2, none⟩) (.inl rfl) (.int .i64 ((q : Int) + 1 + 1)))
      go_wp2_with fail
      generalize ((w1.setCell ⟨T, k * 6, none⟩ (.string (mkT (q : Int)))).setCell ⟨T, k * 6 + 1, none⟩ (.int .i64 ((q : Int) + 1))).setCell ⟨T, k * 6 + 2, none⟩ (.int .i64 ((q : Int) + 1 + 1)) = v1 at S1 X1 ⊢
      clear D1 W1 c0 z0 c1 z1 c2 z2 c3 z3
      refine (markText_int ((q : Int) + 1 + 1 + 1) _ (by omega) (by omega)).mono ?_
      rintro e w2 ⟨rfl, hB2⟩
      have D2 := hide (S1.out.below hB2 (Nat.le_refl _) hk)
      have W2 := hide (X1.out.below hB2 (Nat.le_refl _))
      clear hB2 S1 X1
      obtain ⟨c3, z3⟩ := D2.out.row.at (k * 6 + 3) (k * 6 + 3) (by omega) (by omega)
      have S2 := hide (D2.out.setCell HP.out hlt (k * 6 + 3) 3 (by omega) (by omega) (.string (mkT ((q : Int) + 1 + 1 + 1))))
      have X2 := hide (W2.out.setCell (p := ⟨T, k * 6 + 3, none⟩) (.inl rfl) (.string (mkT ((q : Int) + 1 + 1 + 1))))
      have c4 : (w2.setCell ⟨T, k * 6 + 3, none⟩ (.string (mkT ((q : Int) + 1 + 1 + 1)))).cell? ⟨T, k * 6 + 4, none⟩ = some (.slice pa (a k) ca) := by
        have := (S2.out.row.at (k * 6 + 4) (k * 6 + 4) (by omega) (by omega)).1
        rw [if_neg (by omega), if_neg (by omega), if_neg (by omega), if_neg (by omega), hpa] at this
        exact this
      go_wp2_with fail
      generalize w2.setCell ⟨T, k * 6 + 3, none⟩ (.string (mkT ((q : Int) + 1 + 1 + 1))) = v2 at S2 X2 c4 ⊢
      clear D2 W2 c3 z3
      first | rw [show (q : Int) + 1 + 1 + 1 + 1 = ((q + 4 : Nat) : Int) by omega] | rw [show (q : Int) + 4 = ((q + 4 : Nat) : Int) by omega]
      refine (markInsS_sl pa (a k) ca (q + 4) (A k) _ (by omega) (by omega) (by omega) (by by_cases hz : a k = 0; exact .inl hz; exact .inr ⟨EA.out hz, S2.out.act k (Nat.le_refl _) hlt hz⟩)).mono ?_
      rintro e w3 ⟨rfl, hM3, hT3⟩
      have D3 := hide (S2.out.acted HP.out hlt hT3)
      have W3 := hide (X2.out.trans (hT3.mono fun x hx => .inr ⟨k, hlt, .inl hx⟩))
      have M3 := hide hM3
      clear hM3 hT3 S2 X2 c4
      have c5 : w3.cell? ⟨T, k * 6 + 5, none⟩ = some (.slice pl (l k) cl) := by
        have := (D3.out.row.at (k * 6 + 5) (k * 6 + 5) (by omega) (by omega)).1
        rw [if_neg (by omega), if_neg (by omega), if_neg (by omega), if_neg (by omega), hpl] at this
        exact this
      go_wp2_with fail
      refine (markLinkS_sl pl (l k) cl (q + 4 + a k * 3) (L k) _ (by omega) (by omega) (by omega) (by by_cases hz : l k = 0; exact .inl hz; exact .inr ⟨EL.out hz, D3.out.lnk k (Nat.le_refl _) hlt hz⟩)).mono ?_
      rintro e w4 ⟨rfl, hM4, hT4⟩
      have D4 := hide (D3.out.linked HP.out hlt hT4 HQ.out M3.out hM4 (by rw [if_neg (by omega), if_neg (by omega), if_neg (by omega)]; exact if_pos rfl) (by rw [if_neg (by omega), if_neg (by omega), if_pos rfl]) (by rw [if_neg (by omega), if_pos rfl]) (by rw [if_pos rfl]))
      have W4 := hide (W3.out.trans (hT4.mono fun x hx => .inr ⟨k, hlt, .inr hx⟩))
      have HE : Hid (q + 4 + a k * 3 + l k * 4 = dAt a l k0 (k + 1)) := by show _ = dAt a l k0 k + 4 + a k * 3 + l k * 4; rw [HQ.out]
      clear hM4 hT4 D3 W3 M3 c5 hpa hpl
      go_wp2
      exact ⟨⟨k + 1, q + 4 + a k * 3 + l k * 4, _, by omega, HE.out, by go_num, rfl, D4.out, W4.out⟩, by simp [intOf]; omega⟩
    · have e : k = n := by omega
      subst e
      have HV : Hid ((q : Int) = ((dAt a l k0 k : Nat) : Int)) := by show (q : Int) = _; rw [HQ.out]
      go_wp2
      go_ret
      exact ⟨by show Ending.returned (.int .i64 (q : Int)) = _; rw [HV.out], ⟨⟨F, HD.out.row, fun i hi => ⟨(HD.out.mrk i hi).1, (HD.out.mrk i hi).2.1, (HD.out.mrk i hi).2.2.1, (HD.out.mrk i hi).2.2.2, (HD.out.sl i hi).1, (HD.out.sl i hi).2⟩⟩, HD.out.actM, HD.out.lnkM⟩, HW.out⟩

theorem OwnDeed2.plan {w : World} {g n N : Nat} {f : Nat → Deed} (h : OwnDeed2 w g n n N f) (hf : ∀ i, i < n → FitsDeed (f i)) : ∃ A L : Nat → Nat, DPlan g n A L (fun i => (f i).actN) (fun i => (f i).linksN) ∧ DCells w g n A L (fun i => (f i).actN) (fun i => (f i).linksN) ∧ ∀ x, DBlk g n A L (fun i => (f i).actN) (fun i => (f i).linksN) x → g ≤ x ∧ (x = g ∨ x < N) := by
  obtain ⟨F, G0, G1, hr, ha, hN, hF⟩ := h
  refine ⟨G0, G1, ⟨fun i hi => hf i hi, fun i hi => ⟨fun _ => ?_, fun _ => ?_⟩, fun i j hi hj hij => ⟨fun _ _ => ?_, fun _ _ => ?_⟩, fun i j hi hj _ _ => ?_⟩, ⟨⟨F, cells_of_row hr, fun i hi => ?_⟩, fun i hi _ => ?_, fun i hi _ => ?_⟩, fun x hx => ?_⟩
  · have := (hF i hi).2.2.2.2.1.2.2; omega
  · have := (hF i hi).2.2.2.2.2.2.2; omega
  · rcases Nat.lt_or_gt_of_ne hij with h | h
    · have := (ha i j h hj).1; omega
    · have := (ha j i h hi).1; omega
  · rcases Nat.lt_or_gt_of_ne hij with h | h
    · have := (ha i j h hj).2; omega
    · have := (ha j i h hi).2; omega
  · exact ins_link (hF i hi).2.2.2.2.1.2.1 (hF j hj).2.2.2.2.2.2.1
  · exact ⟨⟨_, _, (hF i hi).2.2.2.2.1.1, fun _ => rfl⟩, ⟨_, _, (hF i hi).2.2.2.2.2.1, fun _ => rfl⟩⟩
  · exact (hF i hi).2.2.2.2.1.2.1.cells
  · exact (hF i hi).2.2.2.2.2.2.1.cells
  · rcases hx with rfl | ⟨i, hi, ⟨_, rfl⟩ | ⟨_, rfl⟩⟩
    · exact ⟨Nat.le_refl _, .inl rfl⟩
    · have h1 := (hF i hi).2.2.2.2.1.2.2
      exact ⟨by omega, .inr (hN i hi).1⟩
    · have h1 := (hF i hi).2.2.2.2.2.2.2
      exact ⟨by omega, .inr (hN i hi).2⟩

set_option maxRecDepth 100000 in
set_option maxHeartbeats 4000000 in
theorem markAccount_row (T n cap k0 : Nat) (A L a l : Nat → Nat) (w : World) (hn : (n : Int) ≤ 1048576) (h1 : 1 ≤ (k0 : Int)) (h2 : (k0 : Int) ≤ 1125899906842624) (hP : DPlan T n A L a l) (hC : DCells w T n A L a l) :
    Calls Tryd.prog 16 #[.agg #[.slice (some ⟨T, 0, none⟩) n cap], .int .i64 k0] w fun e w' => e = .returned (.int .i64 ((dAt a l k0 n : Nat) : Int)) ∧ DMarked w' T n A L a l k0 ∧ Touch (DBlk T n A L a l) w w' := by
  have A0 := hide ((Below.refl w.heap.size w).alloc (Nat.le_refl _) (.cells #[.slice (some ⟨T, 0, none⟩) n cap] 30))
  have HC := hide (hC.below A0.out (Nat.le_refl _))
  have HP := hide hP
  clear hC hP
  go_enter Tryd.func16, Tryd.ntmps16
  go_wp2_with fail
  refine (markDeedS_row T n cap k0 A L a l _ hn h1 h2 HP.out HC.out).mono ?_
  rintro e w1 ⟨rfl, hM, hT⟩
  have M1 := hide hM
  have T1 := hide ((Touch.of_below A0.out (Nat.le_refl _)).trans hT)
  clear hM hT
  go_wp2
  go_ret
  exact ⟨rfl, M1.out, T1.out⟩

/-- An account that was copied is marked: no block is touched that was there before or is there behind. -/
theorem markAccount_own (g n N : Nat) (f : Nat → Deed) (w : World) (hn : (n : Int) ≤ 1048576) (hf : ∀ i, i < n → FitsDeed (f i)) (h : OwnDeed2 w g n n N f) (hN : g < N) :
    Calls Tryd.prog 16 #[.agg #[.slice (some ⟨g, 0, none⟩) n n], .int .i64 1] w fun e w' => ∃ q : Nat, e = .returned (.int .i64 q) ∧ Touch (fun x => g ≤ x ∧ x < N) w w' := by
  obtain ⟨A, L, hP, hC, hB⟩ := h.plan hf
  refine (markAccount_row g n n 1 A L _ _ w hn (by omega) (by omega) hP hC).mono ?_
  rintro e w' ⟨rfl, -, hT⟩
  exact ⟨_, rfl, hT.mono fun x hx => ⟨(hB x hx).1, by rcases (hB x hx).2 with h | h <;> omega⟩⟩

end Go.Proofs.YtggchgpphhhleaaDoor.Vp

/-
  Data: rows of texts.
-/
namespace Go.Proofs.YtggchgpphhhleaaDoor.Vp
open Go.RowKit

/-- A row of n texts in block b, from off on. -/
def RowStr (w : World) (b off n : Nat) (f : Nat → ByteArray) : Prop := b < w.heap.size ∧ ∀ i, i < n → w.cell? ⟨b, off + i, none⟩ = some (.string (f i))
theorem RowStr.below {w w' : World} {B b off n : Nat} {f : Nat → ByteArray} (h : RowStr w b off n f) (hb : Below B w w') (hB : w.heap.size ≤ B) : RowStr w' b off n f :=
  ⟨Nat.lt_of_lt_of_le h.1 hb.size, fun i hi => (hb.cell (p := ⟨b, _, none⟩) (Nat.lt_of_lt_of_le h.1 hB)).trans (h.2 i hi)⟩
theorem RowStr.low {w w' : World} {B b off n : Nat} {f : Nat → ByteArray} (h : RowStr w b off n f) (hb : Below B w w') (hB : b < B) : RowStr w' b off n f :=
  ⟨Nat.lt_of_lt_of_le h.1 hb.size, fun i hi => (hb.cell (p := ⟨b, _, none⟩) hB).trans (h.2 i hi)⟩
theorem RowStr.setOther {w : World} {g n off : Nat} {f : Nat → ByteArray} (h : RowStr w g off n f) (p : Addr) (hp : p.block ≠ g) (v : Value) : RowStr (w.setCell p v) g off n f :=
  ⟨by simpa using h.1, fun i hi => (World.cell?_of_block (w := w) (a := ⟨g, off + i, none⟩) (Below.heap_setCell w p v g (fun e => hp e.symm))).trans (h.2 i hi)⟩
def SlStr (w : World) (a : Option Addr) (n : Nat) (f : Nat → ByteArray) : Prop := n = 0 ∨ ∃ b off, a = some ⟨b, off, none⟩ ∧ RowStr w b off n f
theorem SlStr.below {w w' : World} {B : Nat} {a : Option Addr} {n : Nat} {f : Nat → ByteArray} (h : SlStr w a n f) (hb : Below B w w') (hB : w.heap.size ≤ B) : SlStr w' a n f := by
  rcases h with h | ⟨b, off, hv, hr⟩
  · exact .inl h
  · exact .inr ⟨b, off, hv, hr.below hb hB⟩
theorem RowStr.sl {w : World} {b off n : Nat} {f : Nat → ByteArray} (h : RowStr w b off n f) : SlStr w (some ⟨b, off, none⟩) n f := .inr ⟨b, off, rfl, h⟩
theorem infoString : (Tryd.prog.info? 9).map (fun i => (i.zero, i.size, i.bytes)) = some (some (.string ⟨#[]⟩), 1, 16) := by kernel_rfl

end Go.Proofs.YtggchgpphhhleaaDoor.Vp

/-
  Marks of a row of texts.
-/
namespace Go.Proofs.YtggchgpphhhleaaDoor.Vp
open Go.RowKit

/-- What cell j of a marked row of texts holds. -/
def markStr (k0 : Nat) (j : Nat) : Value := .string (mkT ((k0 : Int) + j))
theorem markStr_at {k0 k q : Nat} (h : q = k0 + k) : markStr k0 k = .string (mkT (q : Int)) := by
  have e : (k0 : Int) + (k : Int) = (q : Int) := by omega
  unfold markStr
  rw [e]

set_option maxRecDepth 100000 in
set_option maxHeartbeats 4000000 in
theorem markStringS_row (b off n cap k0 : Nat) (F : Nat → Value) (w : World) (hn : (n : Int) ≤ 1048576) (h1 : 1 ≤ (k0 : Int)) (h2 : (k0 : Int) ≤ 1152921504606846976) (hC : Cells w b off n F) :
    Calls Tryd.prog 17 #[.slice (some ⟨b, off, none⟩) n cap, .int .i64 k0] w fun e w' => e = .returned (.int .i64 ((k0 + n : Nat) : Int)) ∧ Cells w' b off n (markStr k0) ∧ Within b (b + 1) w w' := by
  have HC := hide hC
  clear hC
  go_enter Tryd.func17, Tryd.ntmps17
  go_wp2
  go_loopw [1, 5] (fun v i wr => ∃ (k q : Nat) (F : Nat → Value), k ≤ n ∧ Hid (q = k0 + k) ∧ i = .int .i64 k ∧ v = .int .i64 q ∧ Hid (Cells wr b off n F) ∧ Hid (∀ j, j < k → F j = markStr k0 j) ∧ Hid (Within b (b + 1) w wr)) (fun _ i _ => n - (intOf i).toNat)
  case atStart => exact ⟨0, k0, F, by omega, by show k0 = _; omega, rfl, rfl, HC.out, fun j hj => by omega, Within.refl _ _ _⟩
  case round =>
    obtain ⟨k, q, F, hk, HQ, rfl, rfl, HC0, HM, HW0⟩ := hrel
    have hq1 : 1 ≤ (q : Int) := by have := HQ.out; omega
    have hq2 : (q : Int) ≤ 1152921504610000000 := by have := HQ.out; omega
    by_cases hlt : k < n
    · obtain ⟨c0, z0⟩ := HC0.out.at (off + k) k (by omega) (by omega)
      go_wp2_with fail
      refine (markText_int (q : Int) _ (by omega) (by omega)).mono ?_
      rintro e w1 ⟨rfl, hB⟩
      have HC1 := hide (HC0.out.below hB HC0.out.1)
      have HW1 := hide (HW0.out.below hB (Nat.le_refl _))
      clear hB c0 z0
      obtain ⟨c1, z1⟩ := HC1.out.at (off + k) k (by omega) (by omega)
      have HS1 := hide (HC1.out.setAt (off + k) k (by omega) (by omega) (.string (mkT (q : Int))))
      have HX1 := hide (HW1.out.setCell (p := ⟨b, off + k, none⟩) (Nat.le_refl _) (Nat.lt_succ_self _) (.string (mkT (q : Int))))
      go_wp2
      refine ⟨⟨k + 1, q + 1, _, by omega, by show q + 1 = k0 + (k + 1); have := HQ.out; omega, by go_num, by go_num, HS1.out, ?_, HX1.out⟩, by simp [intOf]; omega⟩
      intro j hj
      rcases (show j < k ∨ j = k by omega) with h | rfl
      · rw [if_neg (by omega), HM.out j h]
      · rw [if_pos rfl, markStr_at HQ.out]
    · have e : k = n := by omega
      subst e
      have hv : (q : Int) = ((k0 + k : Nat) : Int) := by rw [HQ.out]
      have HV := hide hv
      clear hv
      go_wp2
      go_ret
      exact ⟨by show Ending.returned (.int .i64 (q : Int)) = _; rw [HV.out], HC0.out.congr HM.out, HW0.out⟩

set_option maxHeartbeats 1000000 in
theorem markStringS_nil (a : Option Addr) (cap k0 : Nat) (w : World) : Calls Tryd.prog 17 #[.slice a 0 cap, .int .i64 k0] w fun e w' => e = .returned (.int .i64 (k0 : Int)) ∧ w' = w := by
  go_enter Tryd.func17, Tryd.ntmps17
  go_wp2
  go_loop [1, 5] (fun v i => v = .int .i64 k0 ∧ i = .int .i64 0) (fun _ _ => 0)
  case atStart => exact ⟨rfl, rfl⟩
  case round =>
    obtain ⟨rfl, rfl⟩ := hrel
    go_wp2
    go_ret
    exact ⟨rfl, rfl⟩
set_option maxHeartbeats 1000000 in
theorem heldStringS_nil (a : Option Addr) (cap k0 : Nat) (w : World) : Calls Tryd.prog 18 #[.slice a 0 cap, .int .i64 k0] w fun e w' => e = .returned (.int .i64 (k0 : Int)) ∧ w' = w := by
  go_enter Tryd.func18, Tryd.ntmps18
  go_wp2
  go_loop [1, 5] (fun v i => v = .int .i64 k0 ∧ i = .int .i64 0) (fun _ _ => 0)
  case atStart => exact ⟨rfl, rfl⟩
  case round =>
    obtain ⟨rfl, rfl⟩ := hrel
    go_wp2
    go_ret
    exact ⟨rfl, rfl⟩

set_option maxRecDepth 100000 in
set_option maxHeartbeats 4000000 in
theorem heldStringS_row (b off n cap k0 : Nat) (w : World) (hn : (n : Int) ≤ 1048576) (h1 : 1 ≤ (k0 : Int)) (h2 : (k0 : Int) ≤ 1152921504606846976) (hC : Cells w b off n (markStr k0)) :
    Calls Tryd.prog 18 #[.slice (some ⟨b, off, none⟩) n cap, .int .i64 k0] w fun e w' => e = .returned (.int .i64 ((k0 + n : Nat) : Int)) ∧ Below w.heap.size w w' := by
  have HC := hide hC
  have hb : b < w.heap.size := hC.1
  clear hC
  go_enter Tryd.func18, Tryd.ntmps18
  go_wp2
  go_loopw [1, 5] (fun v i wr => ∃ k q : Nat, k ≤ n ∧ Hid (q = k0 + k) ∧ i = .int .i64 k ∧ v = .int .i64 q ∧ Hid (Below w.heap.size w wr)) (fun _ i _ => n - (intOf i).toNat)
  case atStart => exact ⟨0, k0, by omega, by show k0 = _; omega, rfl, rfl, Below.refl _ _⟩
  case round =>
    obtain ⟨k, q, hk, HQ, rfl, rfl, HB0⟩ := hrel
    have hq1 : 1 ≤ (q : Int) := by have := HQ.out; omega
    have hq2 : (q : Int) ≤ 1152921504610000000 := by have := HQ.out; omega
    have hb0 : b < wr.heap.size := Nat.lt_of_lt_of_le hb HB0.out.size
    have H0 := hide (HC.out.below HB0.out hb)
    by_cases hlt : k < n
    · have c0 : wr.cell? ⟨b, off + k, none⟩ = some (.string (mkT (q : Int))) := by have := (H0.out.at (off + k) k (by omega) (by omega)).1; rw [markStr_at HQ.out] at this; exact this
      go_wp2_with fail
      go_region_with (go_at_call 47; refine (markText_int (q : Int) _ (by omega) (by omega)).mono ?_; rintro e w1 ⟨rfl, hB⟩; have D1 : Hid (Below wr.heap.size wr w1) := ⟨hB.os, hB.tape, hB.output, hB.size, hB.block⟩; have HB1 := hide (HB0.out.trans (D1.out.mono HB0.out.size)); have H1 := hide (H0.out.below D1.out hb0); have hb1 : b < w1.heap.size := Nat.lt_of_lt_of_le hb0 D1.out.size; have c1 : w1.cell? ⟨b, off + k, none⟩ = some (.string (mkT (q : Int))) := (D1.out.cell (p := ⟨b, off + k, none⟩) hb0).trans c0; clear hB)
      all_goals
        go_wp2
        exact ⟨⟨k + 1, q + 1, by omega, by show q + 1 = k0 + (k + 1); have := HQ.out; omega, by go_num, by go_num, HB1.out⟩, by simp [intOf]; omega⟩
    · have e : k = n := by omega
      subst e
      have hv : (q : Int) = ((k0 + k : Nat) : Int) := by rw [HQ.out]
      have HV := hide hv
      clear hv
      go_wp2
      go_ret
      exact ⟨by show Ending.returned (.int .i64 (q : Int)) = _; rw [HV.out], HB0.out⟩

end Go.Proofs.YtggchgpphhhleaaDoor.Vp

/-
  Rows of texts compared.
-/
namespace Go.Proofs.YtggchgpphhhleaaDoor.Vp
open Go.RowKit

set_option maxHeartbeats 1000000 in
theorem eqStringS_row (b off cap b2 off2 cap2 n : Nat) (f : Nat → ByteArray) (w : World) (hn : n ≤ 1048576) (hf : RowStr w b off n f) (hf2 : RowStr w b2 off2 n f) :
    Calls Tryd.prog 15 #[.slice (some ⟨b, off, none⟩) n cap, .slice (some ⟨b2, off2, none⟩) n cap2] w fun e w' => e = .returned (.bool true) ∧ Below w.heap.size w w' := by
  have HF := hide hf
  have HF2 := hide hf2
  clear hf hf2
  go_enter Tryd.func15, Tryd.ntmps15
  go_wp2
  go_loopw [5] (fun i wr => ∃ k : Nat, k ≤ n ∧ i = .int .i64 k ∧ Below w.heap.size w wr) (fun i _ => n - (intOf i).toNat)
  case atStart => exact ⟨0, by omega, rfl, Below.refl _ _⟩
  case round =>
    obtain ⟨k, hk, rfl, hB⟩ := hrel
    have HB := hide hB
    clear hB
    by_cases hlt : k < n
    · have c0 := (HF.out.below HB.out (Nat.le_refl _)).2 k hlt
      have d0 := (HF2.out.below HB.out (Nat.le_refl _)).2 k hlt
      go_wp2_with fail
      go_quiet (fail)
      have HB1 := hide (below_drewN HB.out nq)
      clear c0 d0
      generalize wr.drewN nq = W at HB1 ⊢
      have c0 := (HF.out.below HB1.out (Nat.le_refl _)).2 k hlt
      have d0 := (HF2.out.below HB1.out (Nat.le_refl _)).2 k hlt
      go_wp2
      exact ⟨⟨k + 1, by omega, by go_num, HB1.out⟩, by simp [intOf]; omega⟩
    · have e : k = n := by omega
      subst e
      go_wp2
      go_ret
      exact ⟨rfl, HB.out⟩

set_option maxHeartbeats 1000000 in
theorem eqStringS_nil (a a2 : Option Addr) (cap cap2 : Nat) (w : World) :
    Calls Tryd.prog 15 #[.slice a 0 cap, .slice a2 0 cap2] w fun e w' => e = .returned (.bool true) ∧ w' = w := by
  go_enter Tryd.func15, Tryd.ntmps15
  go_wp2
  go_loop [5] (fun i => i = .int .i64 0) (fun _ => 0)
  case atStart => rfl
  case round =>
    subst hrel
    go_wp2
    go_ret
    exact ⟨rfl, rfl⟩

theorem eqStringS_any (a a2 : Option Addr) (cap cap2 n : Nat) (f : Nat → ByteArray) (w : World) (hn : n ≤ 1048576) (h : SlStr w a n f) (h2 : SlStr w a2 n f) :
    Calls Tryd.prog 15 #[.slice a n cap, .slice a2 n cap2] w fun e w' => e = .returned (.bool true) ∧ Below w.heap.size w w' := by
  by_cases hz : n = 0
  · subst hz
    exact (eqStringS_nil a a2 cap cap2 w).mono fun _ _ ⟨a, b⟩ => ⟨a, by rw [b]; exact Below.refl _ _⟩
  · rcases h with h | ⟨b, off, rfl, hf⟩
    · exact absurd h hz
    · rcases h2 with h | ⟨b2, off2, rfl, hf2⟩
      · exact absurd h hz
      · exact eqStringS_row b off cap b2 off2 cap2 n f w hn hf hf2

end Go.Proofs.YtggchgpphhhleaaDoor.Vp

/-
  l1Word: the word and the operand's kind of an instruction.
-/
namespace Go.Proofs.YtggchgpphhhleaaDoor.Vp
open Go.RowKit

/-- The word and the operand's kind of an instruction. -/
def word : Int → List UInt8
  | 1 => [108, 105, 116] | 2 => [99, 97, 116] | 3 => [99, 117, 116] | 4 => [114, 101, 115, 116] | 5 => [119, 111, 114, 100] | 6 => [115, 97, 109, 101] | 7 => [100, 117, 112] | 8 => [115, 119, 97, 112] | 9 => [100, 114, 111, 112]
  | 10 => [106, 117, 109, 112] | 11 => [117, 110, 108, 101, 115, 115] | 12 => [97, 115, 107] | 13 => [104, 97, 115] | 14 => [102, 97, 105, 108] | 15 => [101, 110, 100] | _ => []
def kind : Int → Int
  | 1 => 1 | 3 => 2 | 4 => 2 | 5 => 2 | 10 => 3 | 11 => 3 | _ => 0

set_option maxHeartbeats 1000000 in
theorem l1Word_any (op : Int) (w : World) :
    Calls Tryd.prog 96 #[.int .i64 op] w fun e w' => e = .returned (.tuple #[.string ⟨(word op).toArray⟩, .int .i64 (kind op)]) ∧ w' = w := by
  by_cases h : 1 ≤ op ∧ op ≤ 15
  · have hc : op = 1 ∨ op = 2 ∨ op = 3 ∨ op = 4 ∨ op = 5 ∨ op = 6 ∨ op = 7 ∨ op = 8 ∨ op = 9 ∨ op = 10 ∨ op = 11 ∨ op = 12 ∨ op = 13 ∨ op = 14 ∨ op = 15 := by omega
    clear h
    rcases hc with rfl | rfl | rfl | rfl | rfl | rfl | rfl | rfl | rfl | rfl | rfl | rfl | rfl | rfl | rfl
    all_goals
      go_enter Tryd.func96, Tryd.ntmps96
      go_wp2
      go_ret2
      exact ⟨rfl, rfl⟩
  · have hw : word op = [] := by
      unfold word
      split <;> first | omega | rfl
    have hk : kind op = 0 := by
      unfold kind
      split <;> first | omega | rfl
    rw [hw, hk]
    clear hw hk
    rcases (show op < 1 ∨ 15 < op by omega) with h | h
    all_goals
      go_enter Tryd.func96, Tryd.ntmps96
      go_wp2
      go_ret2
      exact ⟨rfl, rfl⟩

end Go.Proofs.YtggchgpphhhleaaDoor.Vp

/-
  l1InsOk and validIns: the same test.
-/
namespace Go.Proofs.YtggchgpphhhleaaDoor.Vp
open Go.RowKit

def mostText (op : Int) : Int := if op = 1 then 2000 else 0
def mostN (op : Int) : Int := if op = 3 ∨ op = 4 ∨ op = 5 then 2000 else if op = 10 ∨ op = 11 then 200 else 0
def insOk (op : Int) (sz : Nat) (n : Int) : Bool := decide (1 ≤ op ∧ op ≤ 15 ∧ (sz : Int) ≤ mostText op ∧ 0 ≤ n ∧ n ≤ mostN op)


set_option maxHeartbeats 1000000 in
theorem l1InsOk_ne (op : Int) (s : ByteArray) (n : Int) (w : World) (hs : s.size ≤ maxLen) (hz : ¬ s.toList = []) (h0 : 0 < s.size) :
    Calls Tryd.prog 85 #[.agg #[.int .i64 op, .string s, .int .i64 n]] w fun e w' => e = .returned (.bool (insOk op s.size n)) ∧ Below w.heap.size w w' := by
  unfold maxLen at hs
  by_cases h : 1 ≤ op ∧ op ≤ 15
  · have hc : op = 1 ∨ op = 2 ∨ op = 3 ∨ op = 4 ∨ op = 5 ∨ op = 6 ∨ op = 7 ∨ op = 8 ∨ op = 9 ∨ op = 10 ∨ op = 11 ∨ op = 12 ∨ op = 13 ∨ op = 14 ∨ op = 15 := by omega
    clear h
    rcases hc with rfl | rfl | rfl | rfl | rfl | rfl | rfl | rfl | rfl | rfl | rfl | rfl | rfl | rfl | rfl
    all_goals
      go_enter Tryd.func85, Tryd.ntmps85
      go_wp2
      all_goals go_ret
      all_goals refine ⟨ret_bool ?_, (Below.refl _ _).alloc (Nat.le_refl _) _⟩
      all_goals (rw [Bool.eq_iff_iff]; generalize s.size = z at *; simp [insOk, mostText, mostN]; try omega)
  · rcases (show op < 1 ∨ 15 < op by omega) with h | h
    all_goals
      go_enter Tryd.func85, Tryd.ntmps85
      go_wp2
      go_ret
      refine ⟨ret_bool ?_, (Below.refl _ _).alloc (Nat.le_refl _) _⟩
      rw [Bool.eq_iff_iff]; simp [insOk]; omega

set_option maxHeartbeats 1000000 in
theorem l1InsOk_em (op : Int) (n : Int) (w : World) :
    Calls Tryd.prog 85 #[.agg #[.int .i64 op, .string ⟨#[]⟩, .int .i64 n]] w fun e w' => e = .returned (.bool (insOk op 0 n)) ∧ Below w.heap.size w w' := by
  by_cases h : 1 ≤ op ∧ op ≤ 15
  · have hc : op = 1 ∨ op = 2 ∨ op = 3 ∨ op = 4 ∨ op = 5 ∨ op = 6 ∨ op = 7 ∨ op = 8 ∨ op = 9 ∨ op = 10 ∨ op = 11 ∨ op = 12 ∨ op = 13 ∨ op = 14 ∨ op = 15 := by omega
    clear h
    rcases hc with rfl | rfl | rfl | rfl | rfl | rfl | rfl | rfl | rfl | rfl | rfl | rfl | rfl | rfl | rfl
    all_goals
      go_enter Tryd.func85, Tryd.ntmps85
      go_wp2
      all_goals go_ret
      all_goals refine ⟨ret_bool ?_, (Below.refl _ _).alloc (Nat.le_refl _) _⟩
      all_goals (rw [Bool.eq_iff_iff]; simp [insOk, mostText, mostN]; try omega)
  · rcases (show op < 1 ∨ 15 < op by omega) with h | h
    all_goals
      go_enter Tryd.func85, Tryd.ntmps85
      go_wp2
      go_ret
      refine ⟨ret_bool ?_, (Below.refl _ _).alloc (Nat.le_refl _) _⟩
      rw [Bool.eq_iff_iff]; simp [insOk]; omega

theorem l1InsOk_any (op : Int) (s : ByteArray) (n : Int) (w : World) (hs : s.size ≤ maxLen) :
    Calls Tryd.prog 85 #[.agg #[.int .i64 op, .string s, .int .i64 n]] w fun e w' => e = .returned (.bool (insOk op s.size n)) ∧ Below w.heap.size w w' := by
  by_cases h : s.size = 0
  · have e := empty_of_size h
    subst e
    exact l1InsOk_em op n w
  · exact l1InsOk_ne op s n w hs (toList_ne h) (by omega)

end Go.Proofs.YtggchgpphhhleaaDoor.Vp

/-
  The two ValidProgram: one answer.
-/
namespace Go.Proofs.YtggchgpphhhleaaDoor.Vp
open Go.RowKit

/-- The first k instructions are right. -/
def okTo (f : Nat → Ins) : Nat → Bool
  | 0 => true
  | k + 1 => okTo f k && insOk (f k).op (f k).s.size (f k).n
theorem okTo_mono {f : Nat → Ins} {k n : Nat} (h : k ≤ n) (hn : okTo f n = true) : okTo f k = true := by
  induction n with
  | zero => obtain rfl : k = 0 := by omega
            exact hn
  | succ m ih =>
    by_cases e : k = m + 1
    · subst e; exact hn
    · simp only [okTo, Bool.and_eq_true] at hn
      exact ih (by omega) hn.1
theorem okTo_false {f : Nat → Ins} {k n : Nat} (h : k < n) (hk : insOk (f k).op (f k).s.size (f k).n = false) : okTo f n = false := by
  cases e : okTo f n with
  | false => rfl
  | true =>
    have h2 := okTo_mono (show k + 1 ≤ n by omega) e
    simp [okTo, hk] at h2
def valid (f : Nat → Ins) (n : Nat) : Bool := okTo f n && decide (1 ≤ (n : Int) ∧ (n : Int) ≤ 200)

theorem valid_parts {f : Nat → Ins} {n : Nat} (h : valid f n = true) : okTo f n = true ∧ 1 ≤ (n : Int) ∧ (n : Int) ≤ 200 := by
  unfold valid at h
  rw [Bool.and_eq_true, decide_eq_true_eq] at h
  exact h
theorem ok_at {f : Nat → Ins} {k n : Nat} (h : okTo f n = true) (hk : k < n) : insOk (f k).op (f k).s.size (f k).n = true := by
  have := okTo_mono (show k + 1 ≤ n by omega) h
  simp only [okTo, Bool.and_eq_true] at this
  exact this.2

set_option maxHeartbeats 1000000 in
theorem specValid_row (b off n cap : Nat) (f : Nat → Ins) (w : World) (hn : n ≤ 1048576) (hb : b < w.heap.size) (hf : ∀ i, i < n → AtIns w b off i (f i)) (hs : ∀ i, i < n → (f i).s.size ≤ maxLen) :
    Calls Tryd.prog 69 #[.agg #[.slice (some ⟨b, off, none⟩) n cap]] w fun e w' => e = .returned (.bool (valid f n)) ∧ Below w.heap.size w w' := by
  have HF := hide hf
  have HS := hide hs
  clear hf hs
  go_enter Tryd.func69, Tryd.ntmps69
  go_wp2
  go_loopw [3] (fun i wr => ∃ k : Nat, k ≤ n ∧ i = .int .i64 k ∧ okTo f k = true ∧ Below (w.heap.size + 1) (w.alloc (.cells #[.slice (some ⟨b, off, none⟩) n cap] 56)) wr) (fun i _ => n - (intOf i).toNat)
  case atStart => exact ⟨0, by omega, rfl, rfl, Below.refl _ _⟩
  case round =>
    obtain ⟨k, hk, rfl, hok, hB⟩ := hrel
    have HB := hide hB
    have HK := hide hok
    have hc0 : wr.cell? ⟨w.heap.size, 0, none⟩ = some (.slice (some ⟨b, off, none⟩) n cap) := by
      rw [hB.cell (p := ⟨w.heap.size, 0, none⟩) (by simp)]; simp
    have HW : Hid (Below w.heap.size w wr) := ((Below.refl _ _).alloc (Nat.le_refl _) _).trans (hB.mono (by omega))
    have hsz : w.heap.size + 1 ≤ wr.heap.size := by have := hB.size; simpa using this
    clear hB hok
    by_cases hlt : k < n
    · obtain ⟨c0, c1, c2⟩ := (HF.out k hlt).below HW.out hb
      go_wp2_with fail
      refine (l1InsOk_any _ _ _ _ (HS.out k hlt)).mono ?_
      rintro e w' ⟨rfl, hB'⟩
      have HB' := hide hB'
      clear hB' c0 c1 c2 hc0
      cases hi : insOk (f k).op (f k).s.size (f k).n with
      | false =>
        have HI := hide hi
        clear hi
        go_wp2
        go_ret
        refine ⟨ret_bool ?_, HW.out.trans (HB'.out.mono HW.out.size)⟩
        simp [valid, okTo_false hlt HI.out]
      | true =>
        have HI := hide hi
        clear hi
        go_wp2
        exact ⟨⟨k + 1, by omega, by go_num, by simp [okTo, HK.out, HI.out], HB.out.trans (HB'.out.mono hsz)⟩, by simp [intOf]; omega⟩
    · have e : k = n := by omega
      subst e
      by_cases h1 : 1 ≤ (k : Int)
      all_goals
        go_wp2
        go_ret
        refine ⟨ret_bool ?_, HW.out⟩
        rw [Bool.eq_iff_iff]
        simp [valid, HK.out]
        try omega

end Go.Proofs.YtggchgpphhhleaaDoor.Vp

/-
  Names: isName, l1NameOk.
-/
namespace Go.Proofs.YtggchgpphhhleaaDoor.Vp
open Go.RowKit

/-- The first k bytes may stand in a name. -/
def nameTo (s : ByteArray) : Nat → Bool
  | 0 => true
  | k + 1 => nameTo s k && (match s.data[k]? with | some c => decide (33 ≤ c.toNat ∧ c.toNat ≤ 126) | none => false)
def nameOk (s : ByteArray) : Bool := decide (1 ≤ s.size ∧ s.size ≤ 60) && nameTo s s.size
theorem nameTo_mono {s : ByteArray} {k n : Nat} (h : k ≤ n) (hn : nameTo s n = true) : nameTo s k = true := by
  induction n with
  | zero => obtain rfl : k = 0 := by omega
            exact hn
  | succ m ih =>
    by_cases e : k = m + 1
    · subst e; exact hn
    · simp only [nameTo, Bool.and_eq_true] at hn
      exact ih (by omega) hn.1
theorem nameTo_succ {s : ByteArray} {k : Nat} (h : k < s.size) : nameTo s (k + 1) = (nameTo s k && decide (33 ≤ s[k].toNat ∧ s[k].toNat ≤ 126)) := by
  have e : s.data[k]? = some s[k] := by rw [Array.getElem?_eq_getElem h]; rfl
  rw [nameTo, e]
theorem nameTo_false {s : ByteArray} {k : Nat} (h : k < s.size) (hk : ¬ (33 ≤ s[k].toNat ∧ s[k].toNat ≤ 126)) : nameTo s s.size = false := by
  cases e : nameTo s s.size with
  | false => rfl
  | true =>
    have h2 := nameTo_mono (show k + 1 ≤ s.size by omega) e
    rw [nameTo_succ h] at h2
    simp at h2
    omega

theorem byte_ok {c : UInt8} : (33 ≤ c.toNat ∧ c.toNat ≤ 126) ↔ (33 ≤ (c.toNat : Int) ∧ (c.toNat : Int) ≤ 126) := by omega

set_option maxHeartbeats 1000000 in
theorem isName_any (s : ByteArray) (w : World) : Calls Tryd.prog 72 #[.string s] w fun e w' => e = .returned (.bool (nameOk s)) ∧ Below w.heap.size w w' := by
  by_cases h1 : 1 ≤ (s.size : Int)
  · by_cases h2 : (s.size : Int) ≤ 60
    · have HV : Hid (nameOk s = nameTo s s.size) := by
        show nameOk s = nameTo s s.size
        unfold nameOk
        rw [show decide (1 ≤ s.size ∧ s.size ≤ 60) = true by simp; omega, Bool.true_and]
      go_enter Tryd.func72, Tryd.ntmps72
      go_wp2
      go_loopw [14] (fun i wr => ∃ k : Nat, k ≤ s.size ∧ i = .int .i64 k ∧ nameTo s k = true ∧ Below w.heap.size w wr) (fun i _ => s.size - (intOf i).toNat)
      case atStart => exact ⟨0, by omega, rfl, rfl, Below.refl _ _⟩
      case round =>
        obtain ⟨k, hk, rfl, hok, hB⟩ := hrel
        have HB := hide hB
        have HK := hide hok
        clear hB hok
        by_cases hlt : k < s.size
        · by_cases p1 : 33 ≤ (s[k].toNat : Int)
          · by_cases p2 : (s[k].toNat : Int) ≤ 126
            · go_wp2
              exact ⟨⟨k + 1, by omega, by go_num, by rw [nameTo_succ hlt, HK.out]; simp; omega, HB.out⟩, by simp [intOf]; omega⟩
            · go_wp2
              go_ret
              exact ⟨ret_bool (by rw [HV.out, nameTo_false hlt (by omega)]), HB.out⟩
          · go_wp2
            go_ret
            exact ⟨ret_bool (by rw [HV.out, nameTo_false hlt (by omega)]), HB.out⟩
        · have e : k = s.size := by omega
          subst e
          go_wp2
          go_ret
          exact ⟨ret_bool (by rw [HV.out, HK.out]), HB.out⟩
    · have e : nameOk s = false := by
        unfold nameOk
        rw [show decide (1 ≤ s.size ∧ s.size ≤ 60) = false by simp; omega, Bool.false_and]
      rw [e]
      clear e
      go_enter Tryd.func72, Tryd.ntmps72
      go_wp2
      go_ret
      exact ⟨rfl, Below.refl _ _⟩
  · have e : nameOk s = false := by
      unfold nameOk
      rw [show decide (1 ≤ s.size ∧ s.size ≤ 60) = false by simp; omega, Bool.false_and]
    rw [e]
    clear e
    go_enter Tryd.func72, Tryd.ntmps72
    go_wp2
    go_ret
    exact ⟨rfl, Below.refl _ _⟩

set_option maxHeartbeats 1000000 in
theorem l1NameOk_any (s : ByteArray) (w : World) : Calls Tryd.prog 53 #[.string s] w fun e w' => e = .returned (.bool (nameOk s)) ∧ Below w.heap.size w w' := by
  by_cases h1 : 1 ≤ (s.size : Int)
  · by_cases h2 : (s.size : Int) ≤ 60
    · have HV : Hid (nameOk s = nameTo s s.size) := by
        show nameOk s = nameTo s s.size
        unfold nameOk
        rw [show decide (1 ≤ s.size ∧ s.size ≤ 60) = true by simp; omega, Bool.true_and]
      go_enter Tryd.func53, Tryd.ntmps53
      go_wp2
      go_loopw [3] (fun i wr => ∃ k : Nat, k ≤ s.size ∧ i = .int .i64 k ∧ nameTo s k = true ∧ Below w.heap.size w wr) (fun i _ => s.size - (intOf i).toNat)
      case atStart => exact ⟨0, by omega, rfl, rfl, Below.refl _ _⟩
      case round =>
        obtain ⟨k, hk, rfl, hok, hB⟩ := hrel
        have HB := hide hB
        have HK := hide hok
        clear hB hok
        by_cases hlt : k < s.size
        · by_cases p1 : 33 ≤ (s[k].toNat : Int)
          · by_cases p2 : (s[k].toNat : Int) ≤ 126
            · go_wp2
              exact ⟨⟨k + 1, by omega, by go_num, by rw [nameTo_succ hlt, HK.out]; simp; omega, HB.out⟩, by simp [intOf]; omega⟩
            · go_wp2
              go_ret
              exact ⟨ret_bool (by rw [HV.out, nameTo_false hlt (by omega)]), HB.out⟩
          · go_wp2
            go_ret
            exact ⟨ret_bool (by rw [HV.out, nameTo_false hlt (by omega)]), HB.out⟩
        · have e : k = s.size := by omega
          subst e
          go_wp2
          go_ret
          exact ⟨ret_bool (by rw [HV.out, HK.out]), HB.out⟩
    · have e : nameOk s = false := by
        unfold nameOk
        rw [show decide (1 ≤ s.size ∧ s.size ≤ 60) = false by simp; omega, Bool.false_and]
      rw [e]
      clear e
      go_enter Tryd.func53, Tryd.ntmps53
      go_wp2
      go_ret
      exact ⟨rfl, Below.refl _ _⟩
  · have e : nameOk s = false := by
      unfold nameOk
      rw [show decide (1 ≤ s.size ∧ s.size ≤ 60) = false by simp; omega, Bool.false_and]
    rw [e]
    clear e
    go_enter Tryd.func53, Tryd.ntmps53
    go_wp2
    go_ret
    exact ⟨rfl, Below.refl _ _⟩

end Go.Proofs.YtggchgpphhhleaaDoor.Vp

/-
  CheckAccount: what it answers.
-/
namespace Go.Proofs.YtggchgpphhhleaaDoor.Vp
open Go.RowKit

def linkOk (f : Nat → Deed) (p : Nat) (l : Link) : Bool :=
  nameOk l.name && (if l.ask = true then !l.has && decide (0 ≤ l.at_) && decide (l.at_ < (p : Int)) && ((f l.at_.toNat).name.toList == l.name.toList) else decide (l.at_ = 0))
def linksOk (f : Nat → Deed) (p : Nat) (x : Deed) : Nat → Bool
  | 0 => true
  | k + 1 => linksOk f p x k && linkOk f p (x.links k)
def unmadeOk (x : Deed) : Bool := decide (x.code = 0) && decide (x.actN = 0) && decide (x.linksN = 0)
def targetOk (f : Nat → Deed) (p : Nat) (x : Deed) : Bool := decide (0 ≤ x.code) && decide (x.code ≤ 5) && valid x.act x.actN && decide (x.linksN ≤ 200) && linksOk f p x x.linksN
def kindOk (f : Nat → Deed) (p : Nat) (x : Deed) : Bool :=
  if x.kind = 1 then unmadeOk x else if x.kind = 2 then unmadeOk x && decide (x.text.size = 0) else if x.kind = 3 then targetOk f p x else false
def deedOk (f : Nat → Deed) (p : Nat) : Bool := nameOk (f p).name && decide ((f p).text.size ≤ 2000) && kindOk f p (f p)
def nameNew (f : Nat → Deed) (p : Nat) : Nat → Bool
  | 0 => true
  | k + 1 => nameNew f p k && !((f k).name.toList == (f p).name.toList)

/-- The first place below n that is not so, or -1. -/
def firstNo (g : Nat → Bool) : Nat → Int
  | 0 => -1
  | k + 1 => if firstNo g k = -1 then (if g k = true then -1 else k) else firstNo g k
theorem firstNo_all {g : Nat → Bool} {n : Nat} (h : ∀ i, i < n → g i = true) : firstNo g n = -1 := by
  induction n with
  | zero => rfl
  | succ k ih =>
    rw [firstNo, if_pos (ih fun i hi => h i (by omega)), if_pos (h k (by omega))]
theorem firstNo_at {g : Nat → Bool} {n i : Nat} (hi : i < n) (hg : g i = false) (h : ∀ j, j < i → g j = true) : firstNo g n = i := by
  induction n with
  | zero => omega
  | succ k ih =>
    rw [firstNo]
    by_cases e : i = k
    · subst e
      rw [if_pos (firstNo_all h), if_neg (by rw [hg]; simp)]
    · have := ih (by omega)
      rw [this, if_neg (by omega)]
theorem firstNo_ok {g : Nat → Bool} {n : Nat} (h : firstNo g n = -1) : ∀ i, i < n → g i = true := by
  induction n with
  | zero => intro i hi; omega
  | succ k ih =>
    rw [firstNo] at h
    split at h
    · rename_i h1
      intro i hi
      by_cases e : i = k
      · subst e
        cases hg : g i with
        | true => rfl
        | false => rw [hg] at h; simp at h
      · exact ih h1 i (by omega)
    · rename_i h1
      exact absurd h h1
theorem linksOk_at {f : Nat → Deed} {p : Nat} {x : Deed} {n : Nat} (h : linksOk f p x n = true) : ∀ i, i < n → linkOk f p (x.links i) = true := by
  induction n with
  | zero => intro i hi; omega
  | succ k ih =>
    simp only [linksOk, Bool.and_eq_true] at h
    intro i hi
    by_cases e : i = k
    · subst e; exact h.2
    · exact ih h.1 i (by omega)

/-- What the links of a deed list, one after the other. -/
def lks (go : Nat → Nat → (Nat → Bool) → (Nat → Bool) × List (Nat × Nat)) (x : Deed) (d : Nat) (s : Nat → Bool) : Nat → (Nat → Bool) × List (Nat × Nat)
  | 0 => (s, [])
  | j + 1 => if (x.links j).ask = true ∧ (lks go x d s j).1 (x.links j).at_.toNat = false then ((go (x.links j).at_.toNat (d + 1) (lks go x d s j).1).1, (lks go x d s j).2 ++ (go (x.links j).at_.toNat (d + 1) (lks go x d s j).1).2) else lks go x d s j
def put (s : Nat → Bool) (p : Nat) : Nat → Bool := fun q => q == p || s q
/-- A deed listed: the places that are listed then, and what was listed, each with the number of deeds around it. -/
def lst (f : Nat → Deed) : Nat → Nat → Nat → (Nat → Bool) → (Nat → Bool) × List (Nat × Nat)
  | 0, _, _, s => (s, [])
  | k + 1, p, d, s => (put (lks (lst f k) (f p) d s (f p).linksN).1 p, (lks (lst f k) (f p) d s (f p).linksN).2 ++ [(p, d)])
/-- The asks of a deed stand ahead of it. -/
def Ahead (f : Nat → Deed) (n : Nat) : Prop := ∀ p, p < n → ∀ i, i < (f p).linksN → ((f p).links i).ask = true → ((f p).links i).at_.toNat < p ∧ 0 ≤ ((f p).links i).at_
def cnt (s : Nat → Bool) : Nat → Nat
  | 0 => 0
  | k + 1 => cnt s k + (if s k = true then 1 else 0)
theorem cnt_le (s : Nat → Bool) (n : Nat) : cnt s n ≤ n := by
  induction n with
  | zero => simp [cnt]
  | succ k ih => rw [cnt]; split <;> omega
theorem cnt_congr {s s' : Nat → Bool} {n : Nat} (h : ∀ q, q < n → s q = s' q) : cnt s n = cnt s' n := by
  induction n with
  | zero => rfl
  | succ k ih => rw [cnt, cnt, ih fun q hq => h q (by omega), h k (by omega)]
theorem cnt_put {s : Nat → Bool} {p n : Nat} (hp : p < n) (h : s p = false) : cnt (put s p) n = cnt s n + 1 := by
  induction n with
  | zero => omega
  | succ k ih =>
    rw [cnt, cnt]
    by_cases e : p = k
    · subst e
      have h1 : cnt (put s p) p = cnt s p := cnt_congr fun q hq => by simp [put]; omega
      simp [h1, put, h]
    · have h1 : put s p k = s k := by simp [put]; omega
      rw [ih (by omega), h1]
      omega
/-- What a listing of p makes of the places: p is listed, none behind it is touched, each is listed once. -/
structure Lsd (n p d : Nat) (s : Nat → Bool) (r : (Nat → Bool) × List (Nat × Nat)) : Prop where
  far : ∀ q, p < q → r.1 q = s q
  old : ∀ q, s q = true → r.1 q = true
  num : cnt r.1 n = cnt s n + r.2.length
  last : ∃ o, r.2 = o ++ [(p, d)]
  le : ∀ x ∈ r.2, x.1 ≤ p
theorem lks_inv {f : Nat → Deed} {n k p d : Nat} {s : Nat → Bool} (hA : Ahead f n) (hp : p < n) (go : ∀ q d s, q < p → s q = false → Lsd n q d s (lst f k q d s)) :
    ∀ j, j ≤ (f p).linksN → (∀ q, p ≤ q → (lks (lst f k) (f p) d s j).1 q = s q) ∧ (∀ q, s q = true → (lks (lst f k) (f p) d s j).1 q = true) ∧ cnt (lks (lst f k) (f p) d s j).1 n = cnt s n + (lks (lst f k) (f p) d s j).2.length ∧ ∀ x ∈ (lks (lst f k) (f p) d s j).2, x.1 < p
  | 0, _ => ⟨fun _ _ => rfl, fun _ h => h, by simp [lks], by simp [lks]⟩
  | j + 1, hj => by
    obtain ⟨h1, h2, h3, h4⟩ := lks_inv (d := d) (s := s) hA hp go j (by omega)
    rw [lks]
    split
    · rename_i hc
      have ha := (hA p hp j (by omega) hc.1).1
      have g := go _ (d + 1) _ ha hc.2
      refine ⟨fun q hq => (g.far q (by omega)).trans (h1 q hq), fun q hq => g.old q (h2 q hq), ?_, fun x hx => ?_⟩
      · show cnt (lst f k _ (d + 1) _).1 n = _
        rw [g.num, h3, List.length_append]
        omega
      · rcases List.mem_append.1 hx with hx | hx
        · exact h4 x hx
        · have := g.le x hx
          omega
    · exact ⟨h1, h2, h3, h4⟩
theorem lst_inv {f : Nat → Deed} {n : Nat} (hA : Ahead f n) : ∀ k p d s, p < k → p < n → s p = false → Lsd n p d s (lst f k p d s)
  | 0, _, _, _, h, _, _ => absurd h (Nat.not_lt_zero _)
  | k + 1, p, d, s, hk, hn, hs => by
    obtain ⟨h1, h2, h3, h4⟩ := lks_inv (d := d) (s := s) hA hn (fun q d s hq hs => lst_inv hA k q d s (by omega) (by omega) hs) (f p).linksN (Nat.le_refl _)
    have hp := (h1 p (Nat.le_refl _)).trans hs
    refine ⟨fun q hq => ?_, fun q hq => ?_, ?_, ⟨_, rfl⟩, fun x hx => ?_⟩
    · show put _ p q = s q
      rw [put, h1 q (by omega)]
      simp; omega
    · show put _ p q = true
      rw [put, h2 q hq]
      simp
    · show cnt (put _ p) n = _
      rw [cnt_put hn hp, h3]
      simp [lst, List.length_append]
      omega
    · rcases List.mem_append.1 hx with hx | hx
      · exact Nat.le_of_lt (h4 x hx)
      · simp at hx
        subst hx
        exact Nat.le_refl _
/-- It hangs on no place behind. -/
theorem lst_put {f : Nat → Deed} {n : Nat} (hA : Ahead f n) : ∀ k p d s q, p < n → p < q → lst f k p d (put s q) = (put (lst f k p d s).1 q, (lst f k p d s).2)
  | 0, _, _, _, _, _, _ => rfl
  | k + 1, p, d, s, q, hn, hq => by
    have key : ∀ j, j ≤ (f p).linksN → lks (lst f k) (f p) d (put s q) j = (put (lks (lst f k) (f p) d s j).1 q, (lks (lst f k) (f p) d s j).2) := by
      intro j
      induction j with
      | zero => intro _; rfl
      | succ j ih =>
        intro hj
        have e := ih (by omega)
        rw [lks, lks, e]
        by_cases hk : ((f p).links j).ask = true
        · have ha := (hA p hn j (by omega) hk).1
          have e2 : put (lks (lst f k) (f p) d s j).1 q ((f p).links j).at_.toNat = (lks (lst f k) (f p) d s j).1 ((f p).links j).at_.toNat := by simp [put]; omega
          simp only [e2, hk, true_and]
          split
          · rw [lst_put hA k _ (d + 1) _ q (by omega) (by omega)]
          · rfl
        · rw [if_neg (fun h => hk h.1), if_neg (fun h => hk h.1)]
    have e := key (f p).linksN (Nat.le_refl _)
    rw [lst, lst, e]
    simp only [Prod.mk.injEq, and_true]
    funext x
    simp only [put]
    cases h1 : x == p <;> cases h2 : x == q <;> simp
def offAt : Nat → List (Nat × Nat) → Int
  | _, [] => -1
  | i, x :: xs => if x.1 = i then offAt (i + 1) xs else i
def deepAt (f : Nat → Deed) : List (Nat × Nat) → Int
  | [] => -1
  | x :: xs => if (f x.1).kind = 3 ∧ 60 ≤ x.2 then x.1 else deepAt f xs
def listing (f : Nat → Deed) (n : Nat) : List (Nat × Nat) := (lst f n (n - 1) 0 (fun _ => false)).2
/-- The code and the place. -/
def accC (f : Nat → Deed) (n : Nat) : Int × Int :=
  if n = 0 ∨ 400 < n then (1, 0) else
  if firstNo (deedOk f) n ≠ -1 then (2, firstNo (deedOk f) n) else
  if firstNo (fun p => nameNew f p p) n ≠ -1 then (3, firstNo (fun p => nameNew f p p) n) else
  if offAt 0 (listing f n) ≠ -1 then (4, offAt 0 (listing f n)) else
  if deepAt f (listing f n) ≠ -1 then (5, deepAt f (listing f n)) else (0, 0)
theorem ahead_of {f : Nat → Deed} {n : Nat} (h : firstNo (deedOk f) n = -1) : Ahead f n := by
  intro p hp i hi ha
  have h1 := firstNo_ok h p hp
  simp only [deedOk, Bool.and_eq_true, kindOk] at h1
  obtain ⟨_, h2⟩ := h1
  split at h2
  · simp [unmadeOk] at h2
    omega
  · split at h2
    · simp [unmadeOk] at h2
      omega
    · split at h2
      · simp only [targetOk, Bool.and_eq_true] at h2
        have h3 := linksOk_at h2.2 i hi
        simp only [linkOk, ha, if_true, Bool.and_eq_true, decide_eq_true_eq] at h3
        omega
      · cases h2

end Go.Proofs.YtggchgpphhhleaaDoor.Vp

/-
  Names in order: a list that ascends, a name put into it once.
-/
namespace Go.Proofs.YtggchgpphhhleaaDoor.Vp
open Go.RowKit

def lput : List (List UInt8) → List UInt8 → List (List UInt8)
  | [], x => [x]
  | y :: ys, x => if y < x then y :: lput ys x else if y = x then y :: ys else x :: y :: ys

theorem mem_lput (l : List (List UInt8)) (x z : List UInt8) : z ∈ lput l x ↔ z ∈ l ∨ z = x := by
  induction l with
  | nil => simp [lput]
  | cons y ys ih =>
    rw [lput]
    split
    · rw [List.mem_cons, ih, List.mem_cons, or_assoc]
    · split
      · rename_i e
        subst e
        simp only [List.mem_cons]
        constructor
        · exact fun h => .inl h
        · rintro (h | h)
          · exact h
          · exact .inl h
      · simp only [List.mem_cons]
        constructor
        · rintro (h | h | h)
          · exact .inr h
          · exact .inl (.inl h)
          · exact .inl (.inr h)
        · rintro ((h | h) | h)
          · exact .inr (.inl h)
          · exact .inr (.inr h)
          · exact .inl h

theorem text_lt_of {x y : List UInt8} (h1 : ¬ y < x) (h2 : y ≠ x) : x < y := by
  rcases List.le_total x y with h | h
  · exact Classical.byContradiction fun hc => h2 (List.le_antisymm hc h)
  · exact Classical.byContradiction fun hc => h2 (List.le_antisymm h h1)

theorem asc_lput {l : List (List UInt8)} (h : l.Pairwise (· < ·)) (x : List UInt8) : (lput l x).Pairwise (· < ·) := by
  induction l with
  | nil => simp [lput]
  | cons y ys ih =>
    obtain ⟨h1, h2⟩ := List.pairwise_cons.1 h
    rw [lput]
    split
    · rename_i hlt
      refine List.pairwise_cons.2 ⟨fun z hz => ?_, ih h2⟩
      rcases (mem_lput _ _ _).1 hz with hz | rfl
      · exact h1 z hz
      · exact hlt
    · split
      · exact h
      · rename_i hn he
        have hxy := text_lt_of hn he
        refine List.pairwise_cons.2 ⟨fun z hz => ?_, h⟩
        rcases List.mem_cons.1 hz with rfl | hz
        · exact hxy
        · exact List.lt_trans hxy (h1 z hz)

theorem asc_ext : ∀ {l m : List (List UInt8)}, l.Pairwise (· < ·) → m.Pairwise (· < ·) → (∀ z, z ∈ l ↔ z ∈ m) → l = m
  | [], [], _, _, _ => rfl
  | [], y :: ys, _, _, h => by have := (h y).2 (by simp); simp at this
  | x :: xs, [], _, _, h => by have := (h x).1 (by simp); simp at this
  | x :: xs, y :: ys, h1, h2, h => by
    obtain ⟨a1, a2⟩ := List.pairwise_cons.1 h1
    obtain ⟨b1, b2⟩ := List.pairwise_cons.1 h2
    have hxy : x = y := by
      rcases List.mem_cons.1 ((h x).1 (by simp)) with e | e
      · exact e
      · rcases List.mem_cons.1 ((h y).2 (by simp)) with e' | e'
        · exact e'.symm
        · exact absurd (List.lt_trans (b1 x e) (a1 y e')) (List.lt_irrefl _)
    subst hxy
    congr 1
    refine asc_ext a2 b2 fun z => ?_
    have hz := h z
    simp only [List.mem_cons] at hz
    constructor
    · intro hm
      rcases hz.1 (.inr hm) with e | e
      · subst e; exact absurd (a1 _ hm) (List.lt_irrefl _)
      · exact e
    · intro hm
      rcases hz.2 (.inr hm) with e | e
      · subst e; exact absurd (b1 _ hm) (List.lt_irrefl _)
      · exact e

theorem asc_sort {ss : List (List UInt8)} (h : ss.Nodup) : (ss.mergeSort (fun x y => decide (x ≤ y))).Pairwise (· < ·) := by
  have hs : (ss.mergeSort (fun x y => decide (x ≤ y))).Pairwise (fun x y => decide (x ≤ y) = true) :=
    List.pairwise_mergeSort (fun a b c hab hbc => by simp only [decide_eq_true_eq] at *; exact List.le_trans hab hbc) (fun a b => by simp only [Bool.or_eq_true, decide_eq_true_eq]; exact List.le_total a b) ss
  have hn : (ss.mergeSort (fun x y => decide (x ≤ y))).Nodup := (List.mergeSort_perm ss _).nodup_iff.2 h
  refine (hs.and hn).imp ?_
  rintro a b ⟨h1, h2⟩
  exact text_lt_of (by simpa using h1) (Ne.symm h2)

/-- the keys of a set, sorted, are any list that ascends and has the same names. -/
theorem sort_is {ss l : List (List UInt8)} (h : ss.Nodup) (hl : l.Pairwise (· < ·)) (hm : ∀ z, z ∈ ss ↔ z ∈ l) : ss.mergeSort (fun x y => decide (x ≤ y)) = l :=
  asc_ext (asc_sort h) hl fun z => by rw [← hm z]; exact (List.mergeSort_perm ss _).mem_iff

/-- where a name is put. -/
theorem lput_at : ∀ (l : List (List UInt8)) (x : List UInt8) (k : Nat), k ≤ l.length → (∀ j (h : j < l.length), j < k → l[j] < x) → (∀ h : k < l.length, ¬ l[k] < x) → lput l x = if l[k]? = some x then l else l.take k ++ x :: l.drop k
  | [], x, k, hk, _, _ => by simp at hk; subst hk; simp [lput]
  | y :: ys, x, 0, hk, h1, h2 => by
    have := h2 (by simp)
    simp only [List.getElem_cons_zero] at this
    rw [lput, if_neg this]
    simp
  | y :: ys, x, k + 1, hk, h1, h2 => by
    have h0 := h1 0 (by simp) (by omega)
    simp only [List.getElem_cons_zero] at h0
    rw [lput, if_pos h0, lput_at ys x k (by simpa using hk) (fun j h hj => by have := h1 (j + 1) (by simpa using h) (by omega); simpa using this) (fun h => by have := h2 (by simpa using h); simpa using this)]
    simp only [List.getElem?_cons_succ, List.take_succ_cons, List.drop_succ_cons]
    split <;> rfl

theorem lput_len (l : List (List UInt8)) (x : List UInt8) : (lput l x).length ≤ l.length + 1 := by
  induction l with
  | nil => simp [lput]
  | cons y ys ih =>
    rw [lput]
    split
    · simp only [List.length_cons]; omega
    · split <;> simp

end Go.Proofs.YtggchgpphhhleaaDoor.Vp

/-
  What is owned; one new cell.
-/
namespace Go.Proofs.YtggchgpphhhleaaDoor.Vp
open Go.RowKit

theorem one_new (w : World) (x : Value) (t : TypeId) : ∀ j u, [x][j]? = some u → (w.alloc (.cells #[x] t)).cell? ((⟨w.heap.size, 0, none⟩ : Addr).add j) = some u := by
  intro j u hj
  match j, hj with
  | 0, hj => simp at hj; subst hj; simp [Addr.add]
theorem step_append_own {P : Program} {w : World} {ops : Array Oper} {o : Oper} {a : Act} {K : Act → World → Prop} {Q : Exit → Act → World → Prop} {E : Prop} (hg : o.guard = none) (s x : Operand) (t : TypeId)
    (ho : o.op = .call { callee := .builtin .append, args := #[s, x], argTypes := #[t, t] })
    (base : Nat) (e : TypeId) (i : TypeInfo) (z : Value) (size bytes : Nat) (ht : P.underlying t = some (.slice e)) (hi : P.info? e = some i) (hz : i.zero = some z)
    (hsize : i.size = size) (hby : i.bytes = bytes) (hzs : z.cells.size = size) (hsz : 0 < size)
    (v : Value) (n : Nat) (xs : List Value) (hs : a.eval s = v) (hown : w.ownsRow base e size v n xs)
    (ad : Addr) (m c : Nat) (news : List Value) (hx : a.eval x = .slice (some ad) m c) (hl : news.length = m * size) (hnews : ∀ j u, news[j]? = some u → w.cell? (ad.add j) = some u) (h1 : ∀ u ∈ news, u.oneCell' = true)
    (h63 : n + m ≤ maxLen) (hbytes : (n + m) * bytes ≤ 140737488355328) (hbase : base ≤ w.heap.size)
    (h : ∀ v' w', w'.ownsRow base e size v' (n + m) (xs ++ news) → w.grownBy w' v.ownBlock → (v' = .slice none 0 0 ↔ v = .slice none 0 0 ∧ m = 0) → K (a.put o.dst v') w') :
    if Region.wanted o (yielded ops a.tmps) = true then Oper.wp P o a w K Q else E := by
  have hw : Region.wanted o (yielded ops a.tmps) = true := by simp [Region.wanted, hg]
  rw [if_pos hw]
  exact wp_append_own w s x t ho base e i z size bytes ht hi hz hsize hby hzs hsz v n xs hs hown ad m c news hx hl hnews h1 h63 hbytes hbase h

/-- What is owned stays owned where old blocks stand. -/
theorem own_below {w w' : World} {base B : Nat} {e : TypeId} {size n : Nat} {v : Value} {xs : List Value} (h : w.ownsRow base e size v n xs) (hb : Below B w w') (hB : w.heap.size ≤ B) : w'.ownsRow base e size v n xs :=
  h.kept (row := none) ⟨hb.os, hb.tape, hb.output, hb.size, fun k hk _ => hb.block k (Nat.lt_of_lt_of_le hk hB)⟩ (by cases v.ownBlock <;> simp)
theorem own_mono {w : World} {base base' : Nat} {e : TypeId} {size n : Nat} {v : Value} {xs : List Value} (h : w.ownsRow base e size v n xs) (hb : base' ≤ base) : w.ownsRow base' e size v n xs := by
  refine ⟨h.1, ?_⟩
  rcases h.2 with h | ⟨g, cap, cur, hv, hg, r⟩
  · exact .inl h
  · exact .inr ⟨g, cap, cur, hv, Nat.le_trans hb hg, r⟩
theorem box1 (W : World) (cs : Array Value) (ty : TypeId) (g j : Nat) (v : Value) (hg : g = W.heap.size) (hv : cs[j]? = some v) : (W.alloc (.cells cs ty)).cell? ⟨g, j, none⟩ = some v := by
  subst hg
  simp [hv]
theorem own_form {w : World} {base n : Nat} {e : TypeId} {v : Value} {xs : List Value} (h : w.ownsRow base e 1 v n xs) (hn : 0 < n) : ∃ g cap, v = .slice (some ⟨g, 0, none⟩) n cap := by
  rcases h.2 with ⟨_, h0⟩ | ⟨g, cap, cur, hv, _⟩
  · omega
  · exact ⟨g, cap, hv⟩
end Go.Proofs.YtggchgpphhhleaaDoor.Vp

/-
  spec: l5Put.
-/
namespace Go.Proofs.YtggchgpphhhleaaDoor.Vp
open Go.RowKit Go.Sort

/-- a list of names as a function of the place. -/
def nmF (L : List (List UInt8)) (j : Nat) : ByteArray := ⟨(L.getD j []).toArray⟩
theorem nmF_at {L : List (List UInt8)} {j : Nat} (h : j < L.length) : (nmF L j).toList = L[j] := by
  simp [nmF, ByteArray.toList_eq, List.getD, h]
theorem nmF_enc {L : List (List UInt8)} {j : Nat} (h : j < L.length) : Value.string (nmF L j) = encStr L[j] := by
  simp [nmF, List.getD, h]
theorem nmF_data (x : ByteArray) : (⟨x.toList.toArray⟩ : ByteArray) = x := by
  rw [ByteArray.toList_eq]

theorem row_of_owns {w : World} {base g c : Nat} {L : List (List UInt8)} (h : w.ownsRow base 9 1 (.slice (some ⟨g, 0, none⟩) L.length c) L.length (L.map encStr)) : RowStr w g 0 L.length (nmF L) := by
  rcases h.2 with ⟨hv, h0⟩ | ⟨g', cap, cur, hv, hb, hg, hc1, hc2, hc3, hc4⟩
  · simp at hv
  · simp only [Value.slice.injEq, Option.some.injEq, Addr.mk.injEq] at hv
    obtain ⟨⟨rfl, -⟩, -, rfl⟩ := hv
    have hlt : g < w.heap.size := by
      rcases Nat.lt_or_ge g w.heap.size with h1 | h1
      · exact h1
      · rw [Array.getElem?_eq_none h1] at hg; simp at hg
    refine ⟨hlt, fun i hi => ?_⟩
    have e1 : w.cell? ⟨g, 0 + i, none⟩ = cur[i]? := by simp [World.cell?, hg]
    have e2 : (cur.toList.take (L.length * 1))[i]? = (L.map encStr)[i]? := by rw [hc4]
    rw [List.getElem?_take, if_pos (by omega), Array.getElem?_toList, List.getElem?_map, List.getElem?_eq_getElem hi] at e2
    rw [e1, e2, nmF_enc hi]
    rfl

theorem row_news {w : World} {b off n : Nat} {L : List (List UInt8)} (hR : RowStr w b off n (nmF L)) (hn : n = L.length) (k m : Nat) : ∀ j u, (((L.drop k).take m).map encStr)[j]? = some u → w.cell? ((⟨b, off + k, none⟩ : Addr).add j) = some u := by
  intro j u hj
  rw [List.getElem?_map, List.getElem?_take] at hj
  split at hj
  · rw [List.getElem?_drop] at hj
    rcases Nat.lt_or_ge (k + j) L.length with h1 | h1
    · rw [List.getElem?_eq_getElem h1] at hj
      have := hR.2 (k + j) (by omega)
      rw [nmF_enc h1] at this
      rw [Addr.add_lit, Nat.add_assoc, this]
      simpa using hj
    · rw [List.getElem?_eq_none h1] at hj
      simp at hj
  · simp at hj

theorem row_news' {w : World} {b off n cap : Nat} {L : List (List UInt8)} (hR : RowStr w b off n (nmF L)) (hn : n = L.length) (k : Nat) (hk : k ≤ n) (hc : (n : Int) ≤ cap) : ∀ j u, (((L.drop k).take (n - k)).map encStr)[j]? = some u → w.cell? ((⟨b, off + if cap = k then 0 else k, none⟩ : Addr).add j) = some u := by
  by_cases h : cap = k
  · have : n - k = 0 := by omega
    rw [this]
    intro j u hj
    simp at hj
  · rw [if_neg h]
    exact row_news hR hn k (n - k)

theorem enc_one (l : List (List UInt8)) : ∀ u ∈ l.map encStr, u.oneCell' = true := by
  intro u hu
  obtain ⟨x, -, rfl⟩ := List.mem_map.1 hu
  rfl

theorem infoStr : (Tryd.prog.info? 9).map (fun i => (i.zero, i.size, i.bytes)) = some (some (.string ⟨#[]⟩), 1, 16) := by kernel_rfl

theorem own_lit (w : World) (e : TypeId) (size : Nat) : (w.alloc (.cells #[] e)).ownsRow w.heap.size e size (.slice (some ⟨w.heap.size, 0, none⟩) 0 0) 0 [] :=
  ⟨by simp, .inr ⟨w.heap.size, 0, #[], rfl, Nat.le_refl _, heap_alloc_new w _, Nat.le_refl _, by unfold maxLen; omega, by simp, by simp⟩⟩

theorem lput_here {L : List (List UInt8)} {x : List UInt8} {n k : Nat} (hL : n = L.length) (hk : k ≤ n) (hlo : ∀ j, j < k → (nmF L j).toList < x) (hhi : k < n → ¬ (nmF L k).toList < x) : lput L x = if L[k]? = some x then L else L.take k ++ x :: L.drop k :=
  lput_at L x k (by omega) (fun j h hj => by rw [← nmF_at h]; exact hlo j hj) (fun h => by rw [← nmF_at h]; exact hhi (by omega))

theorem lput_same {L : List (List UInt8)} {x : List UInt8} {n k : Nat} (hL : n = L.length) (hk : k < n) (hlo : ∀ j, j < k → (nmF L j).toList < x) (hhi : ¬ (nmF L k).toList < x) (he : (nmF L k).toList = x) : lput L x = L := by
  have hk' : k < L.length := by omega
  rw [lput_here hL (Nat.le_of_lt hk) hlo (fun _ => hhi), if_pos]
  rw [List.getElem?_eq_getElem hk', ← nmF_at hk', he]

theorem put_done {w : World} {base n k : Nat} {v : Value} {L : List (List UInt8)} {x : ByteArray} (h : w.ownsRow base 9 1 v (0 + k + 1 + (n - k)) ([] ++ (L.take k).map encStr ++ [.string x] ++ ((L.drop k).take (n - k)).map encStr)) (hL : n = L.length) (hk : k ≤ n)
    (hlo : ∀ j, j < k → (nmF L j).toList < x.toList) (hhi : k < n → ¬ (nmF L k).toList < x.toList ∧ (nmF L k).toList ≠ x.toList) :
    ∃ b' off' n' cap' : Nat, v = .slice (some ⟨b', off', none⟩) n' cap' ∧ n' = (lput L x.toList).length ∧ (n' : Int) ≤ cap' ∧ RowStr w b' off' n' (nmF (lput L x.toList)) := by
  rw [List.take_of_length_le (l := L.drop k) (by simp; omega)] at h
  have e : lput L x.toList = L.take k ++ x.toList :: L.drop k := by
    rw [lput_here hL hk hlo (fun h => (hhi h).1), if_neg]
    intro he
    rcases Nat.lt_or_ge k L.length with h1 | h1
    · rw [List.getElem?_eq_getElem h1, ← nmF_at h1] at he
      exact (hhi (by omega)).2 (by simpa using he)
    · rw [List.getElem?_eq_none h1] at he
      simp at he
  have el : (lput L x.toList).map encStr = [] ++ (L.take k).map encStr ++ [.string x] ++ (L.drop k).map encStr := by
    rw [e]
    simp [nmF_data]
  have en : 0 + k + 1 + (n - k) = (lput L x.toList).length := by
    rw [e]
    simp
    omega
  rw [en, ← el] at h
  have hp : 0 < (lput L x.toList).length := by omega
  obtain ⟨g, c, rfl⟩ := own_form h hp
  refine ⟨g, 0, _, c, rfl, rfl, ?_, row_of_owns h⟩
  rcases h.2 with ⟨hv, h0⟩ | ⟨g', cap, cur, hv, hb, hg, hc1, hc2, hc3, hc4⟩
  · simp at hv
  · simp only [Value.slice.injEq] at hv
    obtain ⟨-, -, rfl⟩ := hv
    omega

set_option maxRecDepth 100000 in
set_option maxHeartbeats 4000000 in
theorem l5Put_any (b off n cap : Nat) (L : List (List UInt8)) (x : ByteArray) (w : World) (hL : n = L.length) (hn : (n : Int) ≤ 1048576) (hcap : (n : Int) ≤ cap) (hR : RowStr w b off n (nmF L)) :
    Calls Tryd.prog 42 #[.slice (some ⟨b, off, none⟩) n cap, .string x] w fun e w' => ∃ b' off' n' cap' : Nat, e = .returned (.slice (some ⟨b', off', none⟩) n' cap') ∧ n' = (lput L x.toList).length ∧ (n' : Int) ≤ cap' ∧ RowStr w' b' off' n' (nmF (lput L x.toList)) ∧ Below w.heap.size w w' := by
  obtain ⟨i0, hi, hz0, hz1, hz2⟩ := info_parts infoStr
  have HR := hide hR
  have HL := hide hL
  clear hR hL
  go_enter Tryd.func42, Tryd.ntmps42
  go_wp2
  go_loop [5] (fun i => ∃ k : Nat, k ≤ n ∧ i = .int .i64 k ∧ Hid (∀ j, j < k → (nmF L j).toList < x.toList)) (fun i => n - (intOf i).toNat)
  case atStart => exact ⟨0, by omega, rfl, fun j hj => absurd hj (Nat.not_lt_zero _)⟩
  case round =>
    obtain ⟨k, hk, rfl, HK⟩ := hrel
    have hkc : (k : Int) ≤ cap := by omega
    by_cases hlt : k < n
    · have hck := HR.out.2 k hlt
      cases hb : Op.bytesLess (nmF L k).toList x.toList with
      | true =>
        go_wp2
        exact ⟨⟨k + 1, by omega, by go_num, fun j hj => by
          by_cases e : j = k
          · subst e; rw [bytesLess_eq] at hb; exact of_decide_eq_true hb
          · exact HK.out j (by omega)⟩, by simp [intOf]; omega⟩
      | false =>
        have hb' : ¬ (nmF L k).toList < x.toList := by rw [bytesLess_eq] at hb; exact of_decide_eq_false hb
        have HHb := hide hb'
        clear hb'
        cases he : ((nmF L k).toList == x.toList) with
        | true =>
          have ES := hide (lput_same HL.out hlt HK.out HHb.out (by simpa using he))
          go_wp2
          go_ret
          exact ⟨b, off, n, cap, rfl, by rw [ES.out]; exact HL.out, by omega, by rw [ES.out]; exact HR.out, Below.refl _ _⟩
        | false =>
          have HI := hide (show k < n → ¬ (nmF L k).toList < x.toList ∧ (nmF L k).toList ≠ x.toList from fun _ => ⟨HHb.out, by simpa using he⟩)
          clear HHb
          have O0 := hide (own_lit w 9 1)
          have B0 := hide ((Below.refl w.heap.size w).alloc (Nat.le_refl _) (.cells #[] 9))
          have N1 := hide (row_news (HR.out.below B0.out (Nat.le_refl _)) HL.out 0 k)
          go_wp2_with (at_builtin; refine wpList_append_own _ rfl (.tmp 34) (.tmp 37) 34 rfl w.heap.size 9 i0 (.string ⟨#[]⟩) 1 16 Tryd.underlying34 hi hz0 hz1 hz2 rfl (by decide) (.slice (some ⟨w.heap.size, 0, none⟩) 0 0) 0 [] (by simp [Act.eval]) O0.out ⟨b, off, none⟩ k cap ((L.take k).map encStr) (by simp [Act.eval]) (by have := HL.out; first | (simp; done) | (simp; omega)) (by simpa using N1.out) (enc_one _) (by unfold maxLen; omega) (by omega) (by simp) ?_; intro v1 w1 hown hgrow hnil; have O1 := hide hown; have B1 := hide (Below.grown B0.out hgrow (by simp) (fun j e => (O0.out.lt j e).1)); clear hown hgrow hnil N1 O0 B0)
          have R1 := hide (HR.out.below B1.out (Nat.le_refl _))
          have z1 := B1.out.size
          go_region_law (first
            | (refine step_append_own rfl (.tmp 39) (.tmp 41) 34 rfl w.heap.size 9 i0 (.string ⟨#[]⟩) 1 16 Tryd.underlying34 hi hz0 hz1 hz2 rfl (by decide) v1 (0 + k) ([] ++ (L.take k).map encStr) (by simp [Act.eval]) (by first | exact O1.out.alloc _ | exact O1.out.drew.alloc _ | exact O1.out.drew.drew.alloc _) ⟨w1.heap.size, 0, none⟩ 1 1 [.string x] (by simp [Act.eval]) rfl (by first | exact one_new w1 _ _ | exact one_new w1.drew _ _ | exact one_new w1.drew.drew _ _) (by simp [Value.oneCell']) (by unfold maxLen; omega) (by omega) (by first | (simp; done) | (simp; omega)) ?_; intro v2 w2 hown hgrow hnil; have O2 := hide hown; (first | have B2 := hide (Below.grown (B1.out.alloc z1 _) hgrow (by first | (simp; done) | (simp; omega)) (fun j e => (O1.out.lt j e).1)) | have B2 := hide (Below.grown (B1.out.drew.alloc (by simpa using z1) _) hgrow (by first | (simp; done) | (simp; omega)) (fun j e => (O1.out.lt j e).1))); have R2 := hide (HR.out.below B2.out (Nat.le_refl _)); have N2 := hide (row_news' R2.out HL.out k hk hcap); have z2 := B2.out.size; clear hown hgrow hnil)
            | (refine step_append_own rfl (.tmp 42) (.tmp 45) 34 rfl w.heap.size 9 i0 (.string ⟨#[]⟩) 1 16 Tryd.underlying34 hi hz0 hz1 hz2 rfl (by decide) v2 (0 + k + 1) ([] ++ (L.take k).map encStr ++ [.string x]) (by simp [Act.eval]) O2.out ⟨b, off + if cap = k then 0 else k, none⟩ (n - k) (cap - k) (((L.drop k).take (n - k)).map encStr) (by by_cases h : cap = k <;> simp [Act.eval, h]) (by have := HL.out; first | (simp; done) | (simp; omega)) N2.out (enc_one _) (by unfold maxLen; omega) (by omega) z2 ?_; intro v3 w3 hown hgrow hnil; have O3 := hide hown; have B3 := hide (Below.grown B2.out hgrow z2 (fun j e => (O2.out.lt j e).1)); clear hown hgrow hnil))
          all_goals go_wp2
          all_goals
            obtain ⟨b', off', n', cap', rfl, h1, h2, h3⟩ := put_done O3.out HL.out hk HK.out HI.out
            go_ret
            exact ⟨b', off', n', cap', rfl, h1, by omega, h3, B3.out⟩
    · obtain rfl : k = n := by omega
      have HI := hide (show k < k → ¬ (nmF L k).toList < x.toList ∧ (nmF L k).toList ≠ x.toList from fun h => absurd h (Nat.lt_irrefl _))
      have O0 := hide (own_lit w 9 1)
      have B0 := hide ((Below.refl w.heap.size w).alloc (Nat.le_refl _) (.cells #[] 9))
      have N1 := hide (row_news (HR.out.below B0.out (Nat.le_refl _)) HL.out 0 k)
      go_wp2_with (at_builtin; refine wpList_append_own _ rfl (.tmp 34) (.tmp 37) 34 rfl w.heap.size 9 i0 (.string ⟨#[]⟩) 1 16 Tryd.underlying34 hi hz0 hz1 hz2 rfl (by decide) (.slice (some ⟨w.heap.size, 0, none⟩) 0 0) 0 [] (by simp [Act.eval]) O0.out ⟨b, off, none⟩ k cap ((L.take k).map encStr) (by simp [Act.eval]) (by have := HL.out; first | (simp; done) | (simp; omega)) (by simpa using N1.out) (enc_one _) (by unfold maxLen; omega) (by omega) (by simp) ?_; intro v1 w1 hown hgrow hnil; have O1 := hide hown; have B1 := hide (Below.grown B0.out hgrow (by simp) (fun j e => (O0.out.lt j e).1)); clear hown hgrow hnil N1 O0 B0)
      have R1 := hide (HR.out.below B1.out (Nat.le_refl _))
      have z1 := B1.out.size
      go_region_law (first
        | (refine step_append_own rfl (.tmp 39) (.tmp 41) 34 rfl w.heap.size 9 i0 (.string ⟨#[]⟩) 1 16 Tryd.underlying34 hi hz0 hz1 hz2 rfl (by decide) v1 (0 + k) ([] ++ (L.take k).map encStr) (by simp [Act.eval]) (by first | exact O1.out.alloc _ | exact O1.out.drew.alloc _ | exact O1.out.drew.drew.alloc _) ⟨w1.heap.size, 0, none⟩ 1 1 [.string x] (by simp [Act.eval]) rfl (by first | exact one_new w1 _ _ | exact one_new w1.drew _ _ | exact one_new w1.drew.drew _ _) (by simp [Value.oneCell']) (by unfold maxLen; omega) (by omega) (by first | (simp; done) | (simp; omega)) ?_; intro v2 w2 hown hgrow hnil; have O2 := hide hown; (first | have B2 := hide (Below.grown (B1.out.alloc z1 _) hgrow (by first | (simp; done) | (simp; omega)) (fun j e => (O1.out.lt j e).1)) | have B2 := hide (Below.grown (B1.out.drew.alloc (by simpa using z1) _) hgrow (by first | (simp; done) | (simp; omega)) (fun j e => (O1.out.lt j e).1))); have R2 := hide (HR.out.below B2.out (Nat.le_refl _)); have N2 := hide (row_news' R2.out HL.out k hk hcap); have z2 := B2.out.size; clear hown hgrow hnil)
        | (refine step_append_own rfl (.tmp 42) (.tmp 45) 34 rfl w.heap.size 9 i0 (.string ⟨#[]⟩) 1 16 Tryd.underlying34 hi hz0 hz1 hz2 rfl (by decide) v2 (0 + k + 1) ([] ++ (L.take k).map encStr ++ [.string x]) (by simp [Act.eval]) O2.out ⟨b, off + if cap = k then 0 else k, none⟩ (k - k) (cap - k) (((L.drop k).take (k - k)).map encStr) (by by_cases h : cap = k <;> simp [Act.eval, h]) (by have := HL.out; first | (simp; done) | (simp; omega)) N2.out (enc_one _) (by unfold maxLen; omega) (by omega) z2 ?_; intro v3 w3 hown hgrow hnil; have O3 := hide hown; have B3 := hide (Below.grown B2.out hgrow z2 (fun j e => (O2.out.lt j e).1)); clear hown hgrow hnil))
      all_goals go_wp2
      all_goals
        obtain ⟨b', off', n', cap', rfl, h1, h2, h3⟩ := put_done O3.out HL.out hk HK.out HI.out
        go_ret
        exact ⟨b', off', n', cap', rfl, h1, by omega, h3, B3.out⟩

end Go.Proofs.YtggchgpphhhleaaDoor.Vp

/-
  Answers that are rows of texts: marked, held.
-/
namespace Go.Proofs.YtggchgpphhhleaaDoor.Vp
open Go.RowKit Go.Sort

theorem markStringS_sl (p : Option Addr) (n cap k0 b : Nat) (w : World) (hn : (n : Int) ≤ 1048576) (h1 : 1 ≤ (k0 : Int)) (h2 : (k0 : Int) ≤ 1152921504606846976) (h : Room w p n b n) :
    Calls Tryd.prog 17 #[.slice p n cap, .int .i64 k0] w fun e w' => e = .returned (.int .i64 ((k0 + n : Nat) : Int)) ∧ (n = 0 ∨ (p = some ⟨b, 0, none⟩ ∧ Cells w' b 0 n (markStr k0))) ∧ Touch (fun x => n ≠ 0 ∧ x = b) w w' := by
  by_cases hz : n = 0
  · subst hz
    exact (markStringS_nil p cap k0 w).mono fun e w' ⟨a, b⟩ => ⟨by simpa using a, .inl rfl, by rw [b]; exact Touch.refl _ _⟩
  · obtain ⟨rfl, G, hG⟩ := h.resolve_left hz
    exact (markStringS_row b 0 n cap k0 G w hn h1 h2 hG).mono fun e w' ⟨x, y, z⟩ => ⟨x, .inr ⟨rfl, y⟩, Touch.of_within z ⟨hz, rfl⟩⟩
theorem heldStringS_sl (p : Option Addr) (n cap k0 b : Nat) (w : World) (hn : (n : Int) ≤ 1048576) (h1 : 1 ≤ (k0 : Int)) (h2 : (k0 : Int) ≤ 1152921504606846976) (h : n = 0 ∨ (p = some ⟨b, 0, none⟩ ∧ Cells w b 0 n (markStr k0))) :
    Calls Tryd.prog 18 #[.slice p n cap, .int .i64 k0] w fun e w' => e = .returned (.int .i64 ((k0 + n : Nat) : Int)) ∧ Below w.heap.size w w' := by
  by_cases hz : n = 0
  · subst hz
    exact (heldStringS_nil p cap k0 w).mono fun e w' ⟨a, b⟩ => ⟨by simpa using a, by rw [b]; exact Below.refl _ _⟩
  · obtain ⟨rfl, hG⟩ := h.resolve_left hz
    exact heldStringS_row b 0 n cap k0 w hn h1 h2 hG

def nmS (L : List (List UInt8)) (j : Nat) : Value := .string (nmF L j)
theorem RowStr.touch {w w' : World} {b off n : Nat} {f : Nat → ByteArray} {P : Nat → Prop} (h : RowStr w b off n f) (hT : Touch P w w') (hb : ¬ P b) : RowStr w' b off n f :=
  ⟨Nat.lt_of_lt_of_le h.1 hT.size, fun i hi => (hT.cell (p := ⟨b, off + i, none⟩) h.1 hb).trans (h.2 i hi)⟩

/-- The answer's row: of its own, behind base. -/
def AnsStr (w : World) (base : Nat) (p : Option Addr) (g : Nat) (L : List (List UInt8)) : Prop := L.length = 0 ∨ (p = some ⟨g, 0, none⟩ ∧ base ≤ g ∧ RowStr w g 0 L.length (nmF L) ∧ ∃ F, Cells w g 0 L.length F)
theorem ans_of_owns {w : World} {base : Nat} {v : Value} {L : List (List UInt8)} (h : w.ownsRow base 9 1 v L.length (L.map encStr)) : ∃ p c g, v = .slice p L.length c ∧ AnsStr w base p g L := by
  by_cases hz : L.length = 0
  · rcases h.2 with ⟨hv, h0⟩ | ⟨g, cap, cur, hv, hb, hg, hc1, hc2, hc3, hc4⟩
    · exact ⟨none, 0, 0, by rw [hz]; exact hv, .inl hz⟩
    · exact ⟨_, cap, g, hv, .inl hz⟩
  · obtain ⟨g, cap, rfl⟩ := own_form h (by omega)
    have hr := row_of_owns h
    refine ⟨_, cap, g, rfl, .inr ⟨rfl, ?_, hr, nmS L, hr.1, fun j hj => ?_⟩⟩
    · rcases h.2 with ⟨hv, h0⟩ | ⟨g', cap', cur, hv, hb, hg, hc1, hc2, hc3, hc4⟩
      · simp at hv
      · simp only [Value.slice.injEq, Option.some.injEq, Addr.mk.injEq] at hv
        obtain ⟨⟨rfl, -⟩, -⟩ := hv
        exact hb
    · refine ⟨hr.2 j hj, ?_⟩
      rcases h.2 with ⟨hv, h0⟩ | ⟨g', cap', cur, hv, hb, hg, hc1, hc2, hc3, hc4⟩
      · simp at hv
      · simp only [Value.slice.injEq, Option.some.injEq, Addr.mk.injEq] at hv
        obtain ⟨⟨rfl, -⟩, -⟩ := hv
        simp [World.frozen?, hg]
theorem AnsStr.sl {w : World} {base g : Nat} {p : Option Addr} {L : List (List UInt8)} (h : AnsStr w base p g L) : SlStr w p L.length (nmF L) := by
  rcases h with h | ⟨h1, h2, h3, h4⟩
  · exact .inl h
  · exact .inr ⟨g, 0, h1, h3⟩
theorem AnsStr.room {w : World} {base g : Nat} {p : Option Addr} {L : List (List UInt8)} (h : AnsStr w base p g L) : Room w p L.length g L.length := by
  rcases h with h | ⟨h1, h2, h3, h4⟩
  · exact .inl h
  · exact .inr ⟨h1, h4⟩
theorem AnsStr.below {w w' : World} {base g B : Nat} {p : Option Addr} {L : List (List UInt8)} (h : AnsStr w base p g L) (hb : Below B w w') (hB : w.heap.size ≤ B) : AnsStr w' base p g L := by
  rcases h with h | ⟨h1, h2, h3, F, h4⟩
  · exact .inl h
  · exact .inr ⟨h1, h2, h3.below hb hB, F, h4.below hb (Nat.lt_of_lt_of_le h4.1 hB)⟩
theorem AnsStr.touch {w w' : World} {base g : Nat} {p : Option Addr} {L : List (List UInt8)} {P : Nat → Prop} (h : AnsStr w base p g L) (hT : Touch P w w') (hP : ∀ x, P x → x < base) : AnsStr w' base p g L := by
  rcases h with h | ⟨h1, h2, h3, F, h4⟩
  · exact .inl h
  · have hg : ¬ P g := fun hp => by have := hP g hp; omega
    exact .inr ⟨h1, h2, h3.touch hT hg, F, h4.touch hT hg⟩
theorem AnsStr.ge {w : World} {base g : Nat} {p : Option Addr} {L : List (List UInt8)} (h : AnsStr w base p g L) (hz : L.length ≠ 0) : base ≤ g := (h.resolve_left hz).2.1

/-- A box of one cell. -/
structure OneBox (w : World) (b : Nat) (v : Value) : Prop where
  lt : b < w.heap.size
  c0 : w.cell? ⟨b, 0, none⟩ = some v
theorem one_box (w : World) (v : Value) (t : TypeId) : OneBox (w.alloc (.cells #[v] t)) w.heap.size v := ⟨by simp, by simp⟩
theorem OneBox.below {w w' : World} {b : Nat} {v : Value} (h : OneBox w b v) {B : Nat} (hb : Below B w w') (hB : w.heap.size ≤ B) : OneBox w' b v :=
  ⟨Nat.lt_of_lt_of_le h.lt hb.size, (hb.cell (p := ⟨b, 0, none⟩) (Nat.lt_of_lt_of_le h.lt hB)).trans h.c0⟩
theorem OneBox.touch {w w' : World} {b : Nat} {v : Value} {P : Nat → Prop} (h : OneBox w b v) (hT : Touch P w w') (hb : ¬ P b) : OneBox w' b v :=
  ⟨Nat.lt_of_lt_of_le h.lt hT.size, (hT.cell (p := ⟨b, 0, none⟩) h.lt hb).trans h.c0⟩

end Go.Proofs.YtggchgpphhhleaaDoor.Vp

/-
  validIns: the table's rows.
-/
namespace Go.Proofs.YtggchgpphhhleaaDoor.Vp
open Go.RowKit

set_option maxHeartbeats 400000 in
theorem validIns_a (k : Nat) (s : ByteArray) (n mt mn : Int) (w : World) (h1 : 1 ≤ (k : Int)) (h2 : (k : Int) ≤ 15)
    (hT : w.cell? ⟨0, k * 5 + 1, none⟩ = some (.int .i64 mt)) (hN : w.cell? ⟨0, k * 5 + 2, none⟩ = some (.int .i64 mn)) (hz : 0 < w.heap.size)
    (ht : (s.size : Int) ≤ mt) (hn : 0 ≤ n) :
    Calls Tryd.prog 88 #[.agg #[.int .i64 k, .string s, .int .i64 n]] w fun e w' => e = .returned (.bool (decide (n ≤ mn))) ∧ Below w.heap.size w w' := by
  go_enter Tryd.func88, Tryd.ntmps88
  go_wp2
  go_quiet (fail)
  go_wp2
  go_ret
  exact ⟨rfl, below_drewN ((Below.refl _ _).alloc (Nat.le_refl _) _) _⟩

set_option maxHeartbeats 400000 in
theorem validIns_b (k : Nat) (s : ByteArray) (n mt : Int) (w : World) (h1 : 1 ≤ (k : Int)) (h2 : (k : Int) ≤ 15)
    (hT : w.cell? ⟨0, k * 5 + 1, none⟩ = some (.int .i64 mt)) (hz : 0 < w.heap.size)
    (ht : (s.size : Int) ≤ mt) (hn : n < 0) :
    Calls Tryd.prog 88 #[.agg #[.int .i64 k, .string s, .int .i64 n]] w fun e w' => e = .returned (.bool false) ∧ Below w.heap.size w w' := by
  have hd : decide (0 ≤ n) = false := by simp; omega
  go_enter Tryd.func88, Tryd.ntmps88
  go_wp2
  go_quiet (fail)
  go_wp2
  go_ret
  exact ⟨rfl, below_drewN ((Below.refl _ _).alloc (Nat.le_refl _) _) _⟩

set_option maxHeartbeats 400000 in
theorem validIns_c (k : Nat) (s : ByteArray) (n mt : Int) (w : World) (h1 : 1 ≤ (k : Int)) (h2 : (k : Int) ≤ 15)
    (hT : w.cell? ⟨0, k * 5 + 1, none⟩ = some (.int .i64 mt)) (hz : 0 < w.heap.size)
    (ht : mt < (s.size : Int)) :
    Calls Tryd.prog 88 #[.agg #[.int .i64 k, .string s, .int .i64 n]] w fun e w' => e = .returned (.bool false) ∧ Below w.heap.size w w' := by
  have hd : decide ((s.size : Int) ≤ mt) = false := by simp; omega
  go_enter Tryd.func88, Tryd.ntmps88
  go_wp2
  go_quiet (fail)
  go_wp2
  go_ret
  exact ⟨rfl, below_drewN ((Below.refl _ _).alloc (Nat.le_refl _) _) _⟩

set_option maxHeartbeats 400000 in
theorem validIns_d (op : Int) (s : ByteArray) (n : Int) (w : World) (h : op < 1 ∨ 15 < op) :
    Calls Tryd.prog 88 #[.agg #[.int .i64 op, .string s, .int .i64 n]] w fun e w' => e = .returned (.bool false) ∧ Below w.heap.size w w' := by
  rcases h with h | h
  all_goals
    go_enter Tryd.func88, Tryd.ntmps88
    go_wp2
    go_ret
    exact ⟨rfl, (Below.refl _ _).alloc (Nat.le_refl _) _⟩

/-- The table, as far as it is read: the bounds of each operation's operands. -/
def Tab (w : World) : Prop := 0 < w.heap.size ∧ ∀ k : Nat, k < 16 → w.cell? ⟨0, k * 5 + 1, none⟩ = some (.int .i64 (mostText k)) ∧ w.cell? ⟨0, k * 5 + 2, none⟩ = some (.int .i64 (mostN k))

theorem validIns_any (op : Int) (s : ByteArray) (n : Int) (w : World) (hT : Tab w) :
    Calls Tryd.prog 88 #[.agg #[.int .i64 op, .string s, .int .i64 n]] w fun e w' => e = .returned (.bool (insOk op s.size n)) ∧ Below w.heap.size w w' := by
  by_cases h : 1 ≤ op ∧ op ≤ 15
  · obtain ⟨k, rfl⟩ := Int.eq_ofNat_of_zero_le (show 0 ≤ op by omega)
    obtain ⟨h1, h2⟩ := h
    obtain ⟨t1, t2⟩ := hT.2 k (by omega)
    by_cases ht : (s.size : Int) ≤ mostText k
    · by_cases hn : 0 ≤ n
      · have e : insOk (k : Int) s.size n = decide (n ≤ mostN k) := by
          unfold insOk
          rw [Bool.eq_iff_iff, decide_eq_true_eq, decide_eq_true_eq]
          exact ⟨fun h => h.2.2.2.2, fun h => ⟨h1, h2, ht, hn, h⟩⟩
        rw [e]
        exact validIns_a k s n _ _ w h1 h2 t1 t2 hT.1 ht hn
      · have e : insOk (k : Int) s.size n = false := by
          unfold insOk
          rw [decide_eq_false_iff_not]
          exact fun h => hn h.2.2.2.1
        rw [e]
        exact validIns_b k s n _ w h1 h2 t1 hT.1 ht (by omega)
    · have e : insOk (k : Int) s.size n = false := by
        unfold insOk
        rw [decide_eq_false_iff_not]
        exact fun h => ht h.2.2.1
      rw [e]
      exact validIns_c k s n _ w h1 h2 t1 hT.1 (by omega)
  · have e : insOk op s.size n = false := by
      unfold insOk
      rw [decide_eq_false_iff_not]
      exact fun g => h ⟨g.1, g.2.1⟩
    rw [e]
    exact validIns_d op s n w (by omega)

end Go.Proofs.YtggchgpphhhleaaDoor.Vp

/-
  impl.ValidProgram; eqInsS, eqProgram over two rows of the same instructions.
-/
namespace Go.Proofs.YtggchgpphhhleaaDoor.Vp
open Go.RowKit

theorem Tab.below {w w' : World} {B : Nat} (h : Tab w) (hb : Below B w w') (hB : 0 < B) : Tab w' :=
  ⟨Nat.lt_of_lt_of_le h.1 hb.size, fun k hk => ⟨(hb.cell (p := ⟨0, _, none⟩) hB).trans (h.2 k hk).1, (hb.cell (p := ⟨0, _, none⟩) hB).trans (h.2 k hk).2⟩⟩

set_option maxHeartbeats 1000000 in
theorem implValid_no (a : Option Addr) (n cap : Nat) (f : Nat → Ins) (w : World) (hn : n ≤ 1048576) (h : (n : Int) < 1 ∨ 200 < (n : Int)) :
    Calls Tryd.prog 74 #[.agg #[.slice a n cap]] w fun e w' => e = .returned (.bool (valid f n)) ∧ Below w.heap.size w w' := by
  have e : valid f n = false := by
    unfold valid
    rw [show decide (1 ≤ (n : Int) ∧ (n : Int) ≤ 200) = false by simp; omega, Bool.and_false]
  rw [e]
  clear e
  rcases h with h | h
  all_goals
    go_enter Tryd.func74, Tryd.ntmps74
    go_wp2
    go_ret
    exact ⟨rfl, (Below.refl _ _).alloc (Nat.le_refl _) _⟩

set_option maxHeartbeats 1000000 in
theorem implValid_row (b off n cap : Nat) (f : Nat → Ins) (w : World) (h1 : 1 ≤ (n : Int)) (h2 : (n : Int) ≤ 200) (hb : b < w.heap.size) (hf : ∀ i, i < n → AtIns w b off i (f i)) (hT : Tab w) :
    Calls Tryd.prog 74 #[.agg #[.slice (some ⟨b, off, none⟩) n cap]] w fun e w' => e = .returned (.bool (valid f n)) ∧ Below w.heap.size w w' := by
  have HF := hide hf
  have HT := hide hT
  have hT0 := hT.1
  have HV : Hid (valid f n = okTo f n) := by
    show valid f n = okTo f n
    unfold valid
    rw [show decide (1 ≤ (n : Int) ∧ (n : Int) ≤ 200) = true by simp; omega, Bool.and_true]
  clear hf hT
  go_enter Tryd.func74, Tryd.ntmps74
  go_wp2
  go_loopw [18] (fun i wr => ∃ k : Nat, k ≤ n ∧ i = .int .i64 k ∧ okTo f k = true ∧ Below w.heap.size w wr) (fun i _ => n - (intOf i).toNat)
  case atStart => exact ⟨0, by omega, rfl, rfl, (Below.refl _ _).alloc (Nat.le_refl _) _⟩
  case round =>
    obtain ⟨k, hk, rfl, hok, hB⟩ := hrel
    have HB := hide hB
    have HK := hide hok
    have hsz : w.heap.size ≤ wr.heap.size := hB.size
    clear hB hok
    by_cases hlt : k < n
    · obtain ⟨c0, c1, c2⟩ := (HF.out k hlt).below HB.out hb
      go_wp2_with fail
      refine (validIns_any _ _ _ _ (HT.out.below (HB.out.alloc hsz _) hT0)).mono ?_
      rintro e w' ⟨rfl, hB'⟩
      have HB' : Hid (Below w.heap.size w w') := (HB.out.alloc hsz _).trans (hB'.mono (by simp; omega))
      clear hB' c0 c1 c2
      cases hi : insOk (f k).op (f k).s.size (f k).n with
      | false =>
        have HI := hide hi
        clear hi
        go_wp2
        go_ret
        refine ⟨ret_bool ?_, HB'.out⟩
        rw [HV.out, okTo_false hlt HI.out]
      | true =>
        have HI := hide hi
        clear hi
        go_wp2
        exact ⟨⟨k + 1, by omega, by go_num, by simp [okTo, HK.out, HI.out], HB'.out⟩, by simp [intOf]; omega⟩
    · have e : k = n := by omega
      subst e
      go_wp2
      go_ret
      exact ⟨ret_bool (by rw [HV.out, HK.out]), HB.out⟩

theorem implValid_any (b off n cap : Nat) (f : Nat → Ins) (w : World) (hn : n ≤ 1048576) (hb : b < w.heap.size) (hf : ∀ i, i < n → AtIns w b off i (f i)) (hT : Tab w) :
    Calls Tryd.prog 74 #[.agg #[.slice (some ⟨b, off, none⟩) n cap]] w fun e w' => e = .returned (.bool (valid f n)) ∧ Below w.heap.size w w' := by
  by_cases h : (n : Int) < 1 ∨ 200 < (n : Int)
  · exact implValid_no _ n cap f w hn h
  · exact implValid_row b off n cap f w (by omega) (by omega) hb hf hT

end Go.Proofs.YtggchgpphhhleaaDoor.Vp

/-
  ValidProgram of a program that may have no instruction.
-/
namespace Go.Proofs.YtggchgpphhhleaaDoor.Vp
open Go.RowKit

theorem valid_zero (f : Nat → Ins) : valid f 0 = false := by simp [valid]
theorem implValid_sl (a : Option Addr) (n cap : Nat) (f : Nat → Ins) (w : World) (hn : n ≤ 1048576) (hv : SlIns w a n f) (hT : Tab w) :
    Calls Tryd.prog 74 #[.agg #[.slice a n cap]] w fun e w' => e = .returned (.bool (valid f n)) ∧ Below w.heap.size w w' := by
  rcases hv with rfl | ⟨b, off, rfl, hr⟩
  · exact implValid_no a 0 cap f w (by omega) (by simp)
  · exact implValid_any b off n cap f w hn hr.1 hr.2 hT
set_option maxHeartbeats 1000000 in
theorem specValid_nil (a : Option Addr) (cap : Nat) (f : Nat → Ins) (w : World) : Calls Tryd.prog 69 #[.agg #[.slice a 0 cap]] w fun e w' => e = .returned (.bool (valid f 0)) ∧ Below w.heap.size w w' := by
  rw [valid_zero]
  have A0 := hide ((Below.refl w.heap.size w).alloc (Nat.le_refl _) (.cells #[.slice a 0 cap] 56))
  go_enter Tryd.func69, Tryd.ntmps69
  go_wp2
  go_loop [3] (fun i => i = .int .i64 0) (fun _ => 0)
  case atStart => rfl
  case round =>
    subst hrel
    go_wp2
    go_ret
    exact ⟨rfl, A0.out⟩
theorem specValid_sl (a : Option Addr) (n cap : Nat) (f : Nat → Ins) (w : World) (hn : n ≤ 1048576) (hv : SlIns w a n f) (hs : ∀ i, i < n → (f i).s.size ≤ maxLen) :
    Calls Tryd.prog 69 #[.agg #[.slice a n cap]] w fun e w' => e = .returned (.bool (valid f n)) ∧ Below w.heap.size w w' := by
  rcases hv with rfl | ⟨b, off, rfl, hr⟩
  · exact specValid_nil a cap f w
  · exact specValid_row b off n cap f w hn hr.1 hr.2 hs

end Go.Proofs.YtggchgpphhhleaaDoor.Vp

/-
  isName leaves the world as it is.
-/
namespace Go.Proofs.YtggchgpphhhleaaDoor.Vp
open Go.RowKit

set_option maxHeartbeats 1000000 in
theorem isName_same (s : ByteArray) (w : World) : Calls Tryd.prog 72 #[.string s] w fun e w' => e = .returned (.bool (nameOk s)) ∧ w' = w := by
  by_cases h1 : 1 ≤ (s.size : Int)
  · by_cases h2 : (s.size : Int) ≤ 60
    · have HV : Hid (nameOk s = nameTo s s.size) := by
        show nameOk s = nameTo s s.size
        unfold nameOk
        rw [show decide (1 ≤ s.size ∧ s.size ≤ 60) = true by simp; omega, Bool.true_and]
      go_enter Tryd.func72, Tryd.ntmps72
      go_wp2
      go_loopw [14] (fun i wr => ∃ k : Nat, k ≤ s.size ∧ i = .int .i64 k ∧ nameTo s k = true ∧ wr = w) (fun i _ => s.size - (intOf i).toNat)
      case atStart => exact ⟨0, by omega, rfl, rfl, rfl⟩
      case round =>
        obtain ⟨k, hk, rfl, hok, hB⟩ := hrel
        have HB := hide hB
        have HK := hide hok
        clear hB hok
        by_cases hlt : k < s.size
        · by_cases p1 : 33 ≤ (s[k].toNat : Int)
          · by_cases p2 : (s[k].toNat : Int) ≤ 126
            · go_wp2
              exact ⟨⟨k + 1, by omega, by go_num, by rw [nameTo_succ hlt, HK.out]; simp; omega, HB.out⟩, by simp [intOf]; omega⟩
            · go_wp2
              go_ret
              exact ⟨ret_bool (by rw [HV.out, nameTo_false hlt (by omega)]), HB.out⟩
          · go_wp2
            go_ret
            exact ⟨ret_bool (by rw [HV.out, nameTo_false hlt (by omega)]), HB.out⟩
        · have e : k = s.size := by omega
          subst e
          go_wp2
          go_ret
          exact ⟨ret_bool (by rw [HV.out, HK.out]), HB.out⟩
    · have e : nameOk s = false := by
        unfold nameOk
        rw [show decide (1 ≤ s.size ∧ s.size ≤ 60) = false by simp; omega, Bool.false_and]
      rw [e]
      clear e
      go_enter Tryd.func72, Tryd.ntmps72
      go_wp2
      go_ret
      exact ⟨rfl, rfl⟩
  · have e : nameOk s = false := by
      unfold nameOk
      rw [show decide (1 ≤ s.size ∧ s.size ≤ 60) = false by simp; omega, Bool.false_and]
    rw [e]
    clear e
    go_enter Tryd.func72, Tryd.ntmps72
    go_wp2
    go_ret
    exact ⟨rfl, rfl⟩

end Go.Proofs.YtggchgpphhhleaaDoor.Vp

/-
  impl: what is a right deed.
-/
namespace Go.Proofs.YtggchgpphhhleaaDoor.Vp
open Go.RowKit

abbrev deedV (x : Deed) (a0 : Option Addr) (cap0 : Nat) (a1 : Option Addr) (cap1 : Nat) : Value := .agg #[.string x.name, .int .i64 x.kind, .int .i64 x.code, .string x.text, .slice a0 x.actN cap0, .slice a1 x.linksN cap1]
abbrev linkV (l : Link) : Value := .agg #[.string l.name, .bool l.ask, .bool l.has, .int .i64 l.at_]

set_option maxRecDepth 100000 in
set_option maxHeartbeats 1000000 in
theorem unmade_any (x : Deed) (a0 : Option Addr) (cap0 : Nat) (a1 : Option Addr) (cap1 : Nat) (w : World) :
    Calls Tryd.prog 73 #[deedV x a0 cap0 a1 cap1] w fun e w' => e = .returned (.bool (unmadeOk x)) ∧ Below w.heap.size w w' := by
  have A0 := hide ((Below.refl w.heap.size w).alloc (Nat.le_refl _) (.cells #[.string x.name, .int .i64 x.kind, .int .i64 x.code, .string x.text, .slice a0 x.actN cap0, .slice a1 x.linksN cap1] 59))
  obtain ⟨r, hr⟩ : ∃ r, r = unmadeOk x := ⟨_, rfl⟩
  rw [← hr]
  have HR := hide hr
  clear hr
  go_enter Tryd.func73, Tryd.ntmps73
  cases h1 : (x.code == 0) with
  | false =>
    obtain rfl : r = false := by rw [HR.out]; simp at h1; simp [unmadeOk, h1]
    go_wp2
    go_ret
    exact ⟨rfl, A0.out⟩
  | true =>
    cases h2 : ((x.actN : Int) == 0) with
    | false =>
      obtain rfl : r = false := by rw [HR.out]; simp at h2; simp [unmadeOk]; omega
      go_wp2
      go_ret
      exact ⟨rfl, A0.out⟩
    | true =>
      cases h3 : ((x.linksN : Int) == 0) with
      | false =>
        obtain rfl : r = false := by rw [HR.out]; simp at h3; simp [unmadeOk]; omega
        go_wp2
        go_ret
        exact ⟨rfl, A0.out⟩
      | true =>
        obtain rfl : r = true := by rw [HR.out]; simp at h1 h2 h3; simp [unmadeOk, h1, h2, h3]
        go_wp2
        go_ret
        exact ⟨rfl, A0.out⟩

def linkAt (f : Nat → Deed) (p : Nat) (l : Link) : Bool := if l.ask = true then !l.has && decide (0 ≤ l.at_) && decide (l.at_ < (p : Int)) && ((f l.at_.toNat).name.toList == l.name.toList) else decide (l.at_ = 0)
theorem linkOk_eq (f : Nat → Deed) (p : Nat) (l : Link) : linkOk f p l = (nameOk l.name && linkAt f p l) := rfl

set_option maxRecDepth 100000 in
set_option maxHeartbeats 2000000 in
theorem rightLink_any (b off n p cap : Nat) (f : Nat → Deed) (l : Link) (w : World) (hp : p ≤ n) (hf : RowDeed w b off n f) :
    Calls Tryd.prog 89 #[.slice (some ⟨b, off, none⟩) p cap, linkV l] w fun e w' => e = .returned (.bool (linkAt f p l)) ∧ Below w.heap.size w w' := by
  have A0 := hide ((Below.refl w.heap.size w).alloc (Nat.le_refl _) (.cells #[.string l.name, .bool l.ask, .bool l.has, .int .i64 l.at_] 72))
  have HF := hide (hf.below A0.out (Nat.le_refl _))
  have hb := hf.1
  clear hf
  obtain ⟨r, hr⟩ : ∃ r, r = linkAt f p l := ⟨_, rfl⟩
  rw [← hr]
  have HR := hide hr
  clear hr
  obtain ⟨nm, ask, has, at_⟩ := l
  go_enter Tryd.func89, Tryd.ntmps89
  cases ask with
  | false =>
    cases h1 : (at_ == 0) with
    | true =>
      obtain rfl : r = true := by rw [HR.out]; simp at h1; simp [linkAt, h1]
      go_wp2
      go_ret
      exact ⟨rfl, A0.out⟩
    | false =>
      obtain rfl : r = false := by rw [HR.out]; simp at h1; simp [linkAt, h1]
      go_wp2
      go_ret
      exact ⟨rfl, A0.out⟩
  | true =>
    cases has with
    | true =>
      obtain rfl : r = false := by rw [HR.out]; simp [linkAt]
      go_wp2_with fail
      go_quiet (fail)
      go_wp2
      go_ret
      exact ⟨rfl, below_drewN A0.out _⟩
    | false =>
      by_cases h1 : 0 ≤ at_
      · by_cases h2 : at_ < (p : Int)
        · obtain ⟨q, rfl⟩ : ∃ q : Nat, at_ = (q : Int) := ⟨at_.toNat, by omega⟩
          have hq : q < n := by omega
          have d0 := (HF.out.2 q hq).1
          have e : r = ((f q).name.toList == nm.toList) := by rw [HR.out]; simp [linkAt, h2]
          cases hr : ((f q).name.toList == nm.toList) with
          | true =>
            rw [hr] at e
            subst e
            go_wp2_with fail
            go_quiet (fail)
            go_wp2
            go_ret
            exact ⟨rfl, below_drewN A0.out _⟩
          | false =>
            rw [hr] at e
            subst e
            go_wp2_with fail
            go_quiet (fail)
            go_wp2
            go_ret
            exact ⟨rfl, below_drewN A0.out _⟩
        · obtain rfl : r = false := by rw [HR.out]; simp [linkAt, h2]
          have h3 : decide (at_ < (p : Int)) = false := by simpa using h2
          go_wp2_with fail
          go_quiet (fail)
          go_wp2
          go_ret
          exact ⟨rfl, below_drewN A0.out _⟩
      · obtain rfl : r = false := by rw [HR.out]; simp [linkAt, h1]
        have h3 : decide (0 ≤ at_) = false := by simpa using h1
        go_wp2_with fail
        go_quiet (fail)
        go_wp2
        go_ret
        exact ⟨rfl, below_drewN A0.out _⟩

theorem linksOk_no {f : Nat → Deed} {p : Nat} {x : Deed} {k m : Nat} (hk : k < m) (h : linksOk f p x (k + 1) = false) : linksOk f p x m = false := by
  induction m with
  | zero => omega
  | succ j ih =>
    by_cases e : k = j
    · subst e; exact h
    · rw [linksOk, ih (by omega)]; rfl

set_option maxRecDepth 100000 in
set_option maxHeartbeats 4000000 in
theorem rightLinks_any (b off n cap p : Nat) (f : Nat → Deed) (w : World) (hp : p < n) (hf : RowDeed w b off n f) (hcap : (p : Int) ≤ cap) :
    Calls Tryd.prog 75 #[.agg #[.slice (some ⟨b, off, none⟩) n cap], .int .i64 (p : Int)] w fun e w' => e = .returned (.bool (decide ((f p).linksN ≤ 200) && linksOk f p (f p) (f p).linksN)) ∧ Below w.heap.size w w' := by
  have A0 := hide ((Below.refl w.heap.size w).alloc (Nat.le_refl _) (.cells #[.slice (some ⟨b, off, none⟩) n cap] 30))
  have HF := hide hf
  obtain ⟨_, _, _, _, _, ⟨a1, cap1, p5', r1⟩⟩ := hf.2 p hp
  have hb := hf.1
  have k0 : (w.alloc (.cells #[.slice (some ⟨b, off, none⟩) n cap] 30)).cell? ⟨w.heap.size, 0, none⟩ = some (.slice (some ⟨b, off, none⟩) n cap) := by simp
  have p5 := (A0.out.cell (p := ⟨b, off + p * 6 + 5, none⟩) hb).trans p5'
  have HL := hide r1
  have hw0 : w.heap.size < (w.alloc (.cells #[.slice (some ⟨b, off, none⟩) n cap] 30)).heap.size := by simp
  clear r1 p5' hf
  obtain ⟨m, hm⟩ : ∃ m, m = (f p).linksN := ⟨_, rfl⟩
  obtain ⟨L, hL⟩ : ∃ L, L = (f p).links := ⟨_, rfl⟩
  rw [← hm] at p5 HL ⊢
  rw [← hL] at HL
  have HM := hide hm
  have HLK := hide hL
  clear hm hL
  by_cases hbig : (200 : Int) < (m : Int)
  · obtain ⟨r, hr⟩ : ∃ r, r = (decide (m ≤ 200) && linksOk f p (f p) m) := ⟨_, rfl⟩
    rw [← hr]
    obtain rfl : r = false := by rw [hr]; simp; omega
    clear hr
    go_enter Tryd.func75, Tryd.ntmps75
    go_wp2
    go_ret
    exact ⟨rfl, A0.out⟩
  have hd : decide (m ≤ 200) = true := by simp; omega
  rw [hd, Bool.true_and]
  clear hd
  go_enter Tryd.func75, Tryd.ntmps75
  go_wp2
  generalize w.alloc (.cells #[.slice (some ⟨b, off, none⟩) n cap] 30) = W at A0 k0 hw0 ⊢
  clear p5
  go_loopw [19] (fun i wr => ∃ k : Nat, k ≤ m ∧ i = .int .i64 k ∧ Hid (linksOk f p (f p) k = true) ∧ Hid (Below W.heap.size W wr)) (fun i _ => m - (intOf i).toNat)
  case atStart => exact ⟨0, by omega, rfl, rfl, Below.refl _ _⟩
  case round =>
    obtain ⟨k, hk, rfl, HK, HB⟩ := hrel
    by_cases hlt : k < m
    · obtain ⟨lb, lo, rfl, hlb, hrow⟩ := HL.out.resolve_left (by omega)
      have hx := (hrow k hlt).below (A0.out.trans (HB.out.mono A0.out.size)) hlb
      obtain ⟨l, hl⟩ : ∃ l, l = L k := ⟨_, rfl⟩
      rw [← hl] at hx
      have HLL := hide hl
      obtain ⟨d0, d1, d2, d3⟩ := hx
      clear hl hrow
      have HS : Hid (linksOk f p (f p) (k + 1) = linkOk f p l) := by
        show (linksOk f p (f p) k && linkOk f p ((f p).links k)) = _
        rw [HK.out, Bool.true_and, ← HLK.out, ← HLL.out]
      have B1 := hide ((A0.out.trans (HB.out.mono A0.out.size)).alloc (by have := A0.out.size; have := HB.out.size; omega) (.cells #[.string l.name, .bool l.ask, .bool l.has, .int .i64 l.at_] 72))
      have C1 := hide ((HB.out).alloc HB.out.size (.cells #[.string l.name, .bool l.ask, .bool l.has, .int .i64 l.at_] 72))
      have e0 : (wr.alloc (.cells #[.string l.name, .bool l.ask, .bool l.has, .int .i64 l.at_] 72)).cell? ⟨wr.heap.size, 0, none⟩ = some (.string l.name) := by simp
      have e1 : (wr.alloc (.cells #[.string l.name, .bool l.ask, .bool l.has, .int .i64 l.at_] 72)).cell? ⟨wr.heap.size, 1, none⟩ = some (.bool l.ask) := by simp
      have e2 : (wr.alloc (.cells #[.string l.name, .bool l.ask, .bool l.has, .int .i64 l.at_] 72)).cell? ⟨wr.heap.size, 2, none⟩ = some (.bool l.has) := by simp
      have e3 : (wr.alloc (.cells #[.string l.name, .bool l.ask, .bool l.has, .int .i64 l.at_] 72)).cell? ⟨wr.heap.size, 3, none⟩ = some (.int .i64 l.at_) := by simp
      have hX : wr.heap.size < (wr.alloc (.cells #[.string l.name, .bool l.ask, .bool l.has, .int .i64 l.at_] 72)).heap.size := by simp
      have k1 := (C1.out.cell (p := ⟨w.heap.size, 0, none⟩) hw0).trans k0
      have hw1 : w.heap.size < (wr.alloc (.cells #[.string l.name, .bool l.ask, .bool l.has, .int .i64 l.at_] 72)).heap.size := Nat.lt_of_lt_of_le hw0 C1.out.size
      have FR := hide (HF.out.below B1.out (Nat.le_refl _))
      go_upto_region 7 with fail
      clear d0 d1 d2 d3
      generalize wr.alloc (.cells #[.string l.name, .bool l.ask, .bool l.has, .int .i64 l.at_] 72) = W1 at B1 C1 e0 e1 e2 e3 hX k1 hw1 FR ⊢
      generalize wr.heap.size = X at e0 e1 e2 e3 hX ⊢
      have hp0 : 0 ≤ (p : Int) := by omega
      have hpn : (p : Int) ≤ n := by omega
      have hp' : p ≤ n := by omega
      have hcap' : p ≤ cap := by omega
      cases hnm : nameOk l.name with
      | false =>
        have hq : ∀ w, Calls Tryd.prog 72 #[.string l.name] w fun e w' => e = .returned (.bool false) ∧ w' = w := fun w => by rw [← hnm]; exact isName_same l.name w
        go_quiet ((go_at_call 72; exact Calls.quiet_of_same (hq _)))
        have hN : linkOk f p l = false := by rw [linkOk_eq, hnm]; rfl
        have HN := hide (HS.out.trans hN)
        have HLT := hide hlt
        have G1 := hide (below_drewN B1.out nq)
        clear hN
        go_wp2
        go_ret
        exact ⟨congrArg (fun z => Ending.returned (.bool z)) (linksOk_no HLT.out HN.out).symm, G1.out⟩
      | true =>
        cases hla : linkAt f p l with
        | true =>
          go_region_with (first
            | (go_at_call 72; refine (isName_any _ _).mono ?_; rintro e w1 ⟨he, hB1⟩; rw [hnm] at he; subst he; have D1 : Hid (Below W1.heap.size W1 w1) := ⟨hB1.os, hB1.tape, hB1.output, hB1.size, hB1.block⟩; have f0 := (D1.out.cell (p := ⟨X, 0, none⟩) hX).trans e0; have f1 := (D1.out.cell (p := ⟨X, 1, none⟩) hX).trans e1; have f2 := (D1.out.cell (p := ⟨X, 2, none⟩) hX).trans e2; have f3 := (D1.out.cell (p := ⟨X, 3, none⟩) hX).trans e3; have k2 := (D1.out.cell (p := ⟨w.heap.size, 0, none⟩) hw1).trans k1; have F2 := hide (FR.out.below D1.out (Nat.le_refl _)); clear hB1)
            | (go_at_call 89; refine (rightLink_any b off n p cap f l _ hp' F2.out).mono ?_; rintro e w2 ⟨he, hB2⟩; rw [hla] at he; subst he; have D2 := hide (D1.out.trans (hB2.mono D1.out.size)); clear hB2))
          all_goals
            have HN : Hid (linksOk f p (f p) (k + 1) = true) := HS.out.trans (by rw [linkOk_eq, hnm, hla]; rfl)
            have G2 := hide (C1.out.trans (D2.out.mono C1.out.size))
            go_wp2
            exact ⟨⟨k + 1, by omega, by go_num, HN.out, G2.out⟩, by simp [intOf]; omega⟩
        | false =>
          go_region_with (first
            | (go_at_call 72; refine (isName_any _ _).mono ?_; rintro e w1 ⟨he, hB1⟩; rw [hnm] at he; subst he; have D1 : Hid (Below W1.heap.size W1 w1) := ⟨hB1.os, hB1.tape, hB1.output, hB1.size, hB1.block⟩; have f0 := (D1.out.cell (p := ⟨X, 0, none⟩) hX).trans e0; have f1 := (D1.out.cell (p := ⟨X, 1, none⟩) hX).trans e1; have f2 := (D1.out.cell (p := ⟨X, 2, none⟩) hX).trans e2; have f3 := (D1.out.cell (p := ⟨X, 3, none⟩) hX).trans e3; have k2 := (D1.out.cell (p := ⟨w.heap.size, 0, none⟩) hw1).trans k1; have F2 := hide (FR.out.below D1.out (Nat.le_refl _)); clear hB1)
            | (go_at_call 89; refine (rightLink_any b off n p cap f l _ hp' F2.out).mono ?_; rintro e w2 ⟨he, hB2⟩; rw [hla] at he; subst he; have D2 := hide (D1.out.trans (hB2.mono D1.out.size)); clear hB2))
          all_goals
            have HN : Hid (linksOk f p (f p) (k + 1) = false) := HS.out.trans (by rw [linkOk_eq, hnm, hla]; rfl)
            have HLT := hide hlt
            have G2 := hide (B1.out.trans (D2.out.mono (by have := B1.out.size; omega)))
            go_wp2
            go_ret
            exact ⟨congrArg (fun z => Ending.returned (.bool z)) (linksOk_no HLT.out HN.out).symm, G2.out⟩
    · have e : m = k := by omega
      subst e
      go_wp2
      go_ret
      exact ⟨by rw [HM.out] at HK; rw [HM.out]; exact congrArg (fun z => Ending.returned (.bool z)) HK.out.symm, A0.out.trans (HB.out.mono A0.out.size)⟩

end Go.Proofs.YtggchgpphhhleaaDoor.Vp

/-
  impl: rightDeed, wrongDeed.
-/
namespace Go.Proofs.YtggchgpphhhleaaDoor.Vp
open Go.RowKit

structure SixB (w : World) (b : Nat) (v0 v1 v2 v3 v4 v5 : Value) : Prop where
  lt : b < w.heap.size
  c0 : w.cell? ⟨b, 0, none⟩ = some v0
  c1 : w.cell? ⟨b, 1, none⟩ = some v1
  c2 : w.cell? ⟨b, 2, none⟩ = some v2
  c3 : w.cell? ⟨b, 3, none⟩ = some v3
  c4 : w.cell? ⟨b, 4, none⟩ = some v4
  c5 : w.cell? ⟨b, 5, none⟩ = some v5
theorem SixB.below {w w' : World} {b : Nat} {v0 v1 v2 v3 v4 v5 : Value} (h : SixB w b v0 v1 v2 v3 v4 v5) (hb : Below w.heap.size w w') : SixB w' b v0 v1 v2 v3 v4 v5 :=
  ⟨Nat.lt_of_lt_of_le h.lt hb.size, (hb.cell (p := ⟨b, 0, none⟩) h.lt).trans h.c0, (hb.cell (p := ⟨b, 1, none⟩) h.lt).trans h.c1, (hb.cell (p := ⟨b, 2, none⟩) h.lt).trans h.c2, (hb.cell (p := ⟨b, 3, none⟩) h.lt).trans h.c3, (hb.cell (p := ⟨b, 4, none⟩) h.lt).trans h.c4, (hb.cell (p := ⟨b, 5, none⟩) h.lt).trans h.c5⟩
theorem sixB_new (w : World) (v0 v1 v2 v3 v4 v5 : Value) (t : TypeId) : SixB (w.alloc (.cells #[v0, v1, v2, v3, v4, v5] t)) w.heap.size v0 v1 v2 v3 v4 v5 := ⟨by simp, by simp, by simp, by simp, by simp, by simp, by simp⟩
theorem empty_size (t : ByteArray) : t.toList.isEmpty = decide (t.size = 0) := by
  rw [ByteArray.toList_eq]
  obtain ⟨⟨l⟩⟩ := t
  cases l <;> simp [ByteArray.size]
theorem ret_of {a b : Bool} (h : a = b) : Ending.returned (.bool a) = Ending.returned (.bool b) := by rw [h]

set_option maxRecDepth 100000 in
set_option maxHeartbeats 4000000 in
theorem rightDeed_any (b off n cap p : Nat) (f : Nat → Deed) (w : World) (hp : p < n) (hf : RowDeed w b off n f) (hcap : (p : Int) ≤ cap) (hfit : (f p).actN ≤ 1048576) (hT : Tab w) :
    Calls Tryd.prog 58 #[.agg #[.slice (some ⟨b, off, none⟩) n cap], .int .i64 (p : Int)] w fun e w' => e = .returned (.bool (deedOk f p)) ∧ Below w.heap.size w w' := by
  have HF := hide hf
  have HT := hide hT
  have hb := hf.1
  obtain ⟨p0, p1, p2, p3, ⟨a0, cap0, p4, q4⟩, ⟨a1, cap1, p5, q5⟩⟩ := hf.2 p hp
  obtain ⟨r, hr⟩ : ∃ r, r = deedOk f p := ⟨_, rfl⟩
  rw [← hr]
  have HR := hide hr
  obtain ⟨x, hx⟩ : ∃ x, x = f p := ⟨_, rfl⟩
  rw [← hx] at p0 p1 p2 p3 p4 p5 q4 hfit
  have HX := hide hx
  have Q4 := hide q4
  clear hr hx q4 q5 hf hT
  have A0 := hide (((Below.refl w.heap.size w).alloc (Nat.le_refl _) (.cells #[.slice (some ⟨b, off, none⟩) n cap] 30)).alloc (by simp) (.cells #[.string x.name, .int .i64 x.kind, .int .i64 x.code, .string x.text, .slice a0 x.actN cap0, .slice a1 x.linksN cap1] 59))
  have S0 := hide (sixB_new (w.alloc (.cells #[.slice (some ⟨b, off, none⟩) n cap] 30)) (.string x.name) (.int .i64 x.kind) (.int .i64 x.code) (.string x.text) (.slice a0 x.actN cap0) (.slice a1 x.linksN cap1) 59)
  have hz : (w.alloc (.cells #[.slice (some ⟨b, off, none⟩) n cap] 30)).heap.size = w.heap.size + 1 := by simp
  rw [hz] at S0
  have K0 : Hid (((w.alloc (.cells #[.slice (some ⟨b, off, none⟩) n cap] 30)).alloc (.cells #[.string x.name, .int .i64 x.kind, .int .i64 x.code, .string x.text, .slice a0 x.actN cap0, .slice a1 x.linksN cap1] 59)).cell? ⟨w.heap.size, 0, none⟩ = some (.slice (some ⟨b, off, none⟩) n cap)) := by
    show World.cell? _ _ = _
    simp
  clear hz
  go_enter Tryd.func58, Tryd.ntmps58
  go_wp2_with fail
  generalize (w.alloc (.cells #[.slice (some ⟨b, off, none⟩) n cap] 30)).alloc (.cells #[.string x.name, .int .i64 x.kind, .int .i64 x.code, .string x.text, .slice a0 x.actN cap0, .slice a1 x.linksN cap1] 59) = W at A0 S0 K0 ⊢
  clear p0 p1 p2 p3 p4 p5
  cases hnm : nameOk x.name with
  | false =>
    refine (isName_any x.name _).mono ?_
    rintro e w1 ⟨he, hB⟩
    rw [hnm] at he
    subst he
    have B1 := hide (A0.out.trans (hB.mono A0.out.size))
    obtain rfl : r = false := by rw [HR.out]; unfold deedOk; rw [← HX.out, hnm]; rfl
    clear hB
    go_wp2
    go_ret
    exact ⟨rfl, B1.out⟩
  | true =>
  refine (isName_any x.name _).mono ?_
  rintro e w1 ⟨he, hB⟩
  rw [hnm] at he
  subst he
  have B1 := hide (A0.out.trans (hB.mono A0.out.size))
  have S1 := hide (S0.out.below hB)
  have K1 := hide ((hB.cell (p := ⟨w.heap.size, 0, none⟩) (Nat.lt_of_succ_lt S0.out.lt)).trans K0.out)
  have c1 := S1.out.c1
  have c2 := S1.out.c2
  have c3 := S1.out.c3
  clear hB A0 S0 K0
  by_cases hbig : (2000 : Int) < (x.text.size : Int)
  · obtain rfl : r = false := by rw [HR.out]; unfold deedOk; rw [← HX.out, hnm]; simp; omega
    go_wp2
    go_ret
    exact ⟨rfl, B1.out⟩
  have HK : Hid (r = kindOk f p x) := by
    show r = _
    rw [HR.out]; unfold deedOk; rw [← HX.out, hnm, show decide (x.text.size ≤ 2000) = true by simp; omega]; rfl
  clear HR
  cases h1 : (x.kind == 1) with
  | true =>
    have hk : x.kind = 1 := by simpa using h1
    have HK1 : Hid (unmadeOk x = r) := (HK.out.trans (by unfold kindOk; rw [if_pos hk])).symm
    clear hk
    have c0 := S1.out.c0
    have c4 := S1.out.c4
    have c5 := S1.out.c5
    go_wp2_with fail
    refine (unmade_any x a0 cap0 a1 cap1 _).mono ?_
    rintro e w2 ⟨rfl, hB⟩
    have B2 := hide (B1.out.trans (hB.mono B1.out.size))
    clear hB
    go_wp2
    go_ret
    exact ⟨ret_of HK1.out, B2.out⟩
  | false =>
  cases h2 : (x.kind == 2) with
  | true =>
    have hk : x.kind = 2 := by simpa using h2
    have HK1 : Hid (r = (unmadeOk x && decide (x.text.size = 0))) := HK.out.trans (by unfold kindOk; rw [if_neg (by omega), if_pos hk])
    clear hk
    have c0 := S1.out.c0
    have c4 := S1.out.c4
    have c5 := S1.out.c5
    go_wp2_with fail
    refine (unmade_any x a0 cap0 a1 cap1 _).mono ?_
    rintro e w2 ⟨he, hB⟩
    have B2 := hide (B1.out.trans (hB.mono B1.out.size))
    have d3 := (S1.out.below hB).c3
    clear hB
    cases hu : unmadeOk x with
    | false =>
      rw [hu] at he
      subst he
      obtain rfl : r = false := by rw [HK1.out, hu]; rfl
      go_wp2
      go_ret
      exact ⟨rfl, B2.out⟩
    | true =>
      rw [hu] at he
      subst he
      have HK2 : Hid (decide (x.text.size = 0) = r) := by show _ = r; rw [HK1.out, hu]; rfl
      go_wp2
      go_ret
      exact ⟨ret_bool (by rw [empty_size]; exact HK2.out), B2.out⟩
  | false =>
  cases h3 : (x.kind == 3) with
  | false =>
    obtain rfl : r = false := by rw [HK.out]; unfold kindOk; simp at h1 h2 h3; rw [if_neg h1, if_neg h2, if_neg h3]
    go_wp2
    go_ret
    exact ⟨rfl, B1.out⟩
  | true =>
  have HK1 : Hid (r = targetOk f p x) := HK.out.trans (by unfold kindOk; simp at h1 h2 h3; rw [if_neg h1, if_neg h2, if_pos h3])
  by_cases g1 : 0 ≤ x.code
  · by_cases g2 : x.code ≤ 5
    · have c4 := S1.out.c4
      go_wp2_with fail
      refine (implValid_sl a0 x.actN cap0 x.act _ hfit (Q4.out.below B1.out (Nat.le_refl _)) (HT.out.below B1.out HT.out.1)).mono ?_
      rintro e w2 ⟨he, hB⟩
      have B2 := hide (B1.out.trans (hB.mono B1.out.size))
      have K2 := (hB.cell (p := ⟨w.heap.size, 0, none⟩) (Nat.lt_of_succ_lt S1.out.lt)).trans K1.out
      clear hB
      cases hv : valid x.act x.actN with
      | false =>
        rw [hv] at he
        subst he
        obtain rfl : r = false := by rw [HK1.out]; simp [targetOk, hv]
        go_wp2
        go_ret
        exact ⟨rfl, B2.out⟩
      | true =>
        rw [hv] at he
        subst he
        have HK2 : Hid ((decide (x.linksN ≤ 200) && linksOk f p x x.linksN) = r) := by show _ = r; rw [HK1.out]; simp [targetOk, hv, g1, g2]
        have HRL := hide (rightLinks_any b off n cap p f w2 hp (HF.out.below B2.out (Nat.le_refl _)) hcap)
        rw [← HX.out] at HRL
        rw [HK2.out] at HRL
        go_wp2_with fail
        refine HRL.out.mono ?_
        rintro e w3 ⟨rfl, hB⟩
        have B3 := hide (B2.out.trans (hB.mono B2.out.size))
        clear hB
        go_wp2
        go_ret
        exact ⟨rfl, B3.out⟩
    · obtain rfl : r = false := by rw [HK1.out]; simp [targetOk, g2]
      go_wp2
      go_ret
      exact ⟨rfl, B1.out⟩
  · obtain rfl : r = false := by rw [HK1.out]; simp [targetOk, g1]
    go_wp2
    go_ret
    exact ⟨rfl, B1.out⟩

set_option maxRecDepth 100000 in
set_option maxHeartbeats 4000000 in
theorem wrongDeed_any (b off n cap : Nat) (f : Nat → Deed) (w : World) (hn : (n : Int) ≤ 400) (hf : RowDeed w b off n f) (hcap : (n : Int) ≤ cap) (hfit : ∀ i, i < n → FitsDeed (f i)) (hT : Tab w) :
    Calls Tryd.prog 36 #[.agg #[.slice (some ⟨b, off, none⟩) n cap]] w fun e w' => e = .returned (.int .i64 (firstNo (deedOk f) n)) ∧ Below w.heap.size w w' := by
  have HF := hide hf
  have HT := hide hT
  have HM := hide hfit
  clear hf hT hfit
  have A0 := hide ((Below.refl w.heap.size w).alloc (Nat.le_refl _) (.cells #[.slice (some ⟨b, off, none⟩) n cap] 30))
  have k0 : (w.alloc (.cells #[.slice (some ⟨b, off, none⟩) n cap] 30)).cell? ⟨w.heap.size, 0, none⟩ = some (.slice (some ⟨b, off, none⟩) n cap) := by simp
  have hw0 : w.heap.size < (w.alloc (.cells #[.slice (some ⟨b, off, none⟩) n cap] 30)).heap.size := by simp
  obtain ⟨r, hr⟩ : ∃ r, r = firstNo (deedOk f) n := ⟨_, rfl⟩
  rw [← hr]
  have HR := hide hr
  clear hr
  go_enter Tryd.func36, Tryd.ntmps36
  go_wp2
  generalize w.alloc (.cells #[.slice (some ⟨b, off, none⟩) n cap] 30) = W at A0 k0 hw0 ⊢
  go_loopw [7] (fun i wr => ∃ k : Nat, k ≤ n ∧ i = .int .i64 k ∧ Hid (∀ j, j < k → deedOk f j = true) ∧ Hid (Below W.heap.size W wr)) (fun i _ => n - (intOf i).toNat)
  case atStart => exact ⟨0, by omega, rfl, fun j hj => absurd hj (Nat.not_lt_zero _), Below.refl _ _⟩
  case round =>
    obtain ⟨k, hk, rfl, HK, HB⟩ := hrel
    have k1 := (HB.out.cell (p := ⟨w.heap.size, 0, none⟩) hw0).trans k0
    have G0 := hide (A0.out.trans (HB.out.mono A0.out.size))
    by_cases hlt : k < n
    · go_wp2_with fail
      refine (rightDeed_any b off n cap k f _ hlt (HF.out.below G0.out (Nat.le_refl _)) (by omega) (HM.out k hlt).1 (HT.out.below G0.out HT.out.1)).mono ?_
      rintro e w2 ⟨he, hB⟩
      have G1 := hide (G0.out.trans (hB.mono G0.out.size))
      have H1 := hide (HB.out.trans (hB.mono HB.out.size))
      clear hB
      cases hd : deedOk f k with
      | true =>
        rw [hd] at he
        subst he
        have HD := hide hd
        clear hd
        go_wp2
        exact ⟨⟨k + 1, by omega, by go_num, fun j hj => by
          by_cases e : j = k
          · subst e; exact HD.out
          · exact HK.out j (by omega), H1.out⟩, by simp [intOf]; omega⟩
      | false =>
        rw [hd] at he
        subst he
        obtain rfl : r = k := by rw [HR.out]; exact firstNo_at hlt hd HK.out
        clear hd
        go_wp2
        go_ret
        exact ⟨rfl, G1.out⟩
    · have e : n = k := by omega
      subst e
      obtain rfl : r = -1 := by rw [HR.out]; exact firstNo_all HK.out
      go_wp2
      go_ret
      exact ⟨rfl, G0.out⟩

end Go.Proofs.YtggchgpphhhleaaDoor.Vp

/-
  impl: nameAgain.
-/
namespace Go.Proofs.YtggchgpphhhleaaDoor.Vp
open Go.RowKit

theorem new_has {f : Nat → Deed} {k : Nat} {D : DataW Unit} (hD : Maps.IsMap D) (h : ∀ p, Maps.has D (.string (f p).name.data.toList) = !nameNew f p k) (d : DataW Unit) : ∀ p, Maps.has (D.put (.string (f k).name.data.toList) d) (.string (f p).name.data.toList) = !nameNew f p (k + 1) := by
  intro p
  rw [nameNew, Bool.not_and, ← h p, Bool.not_not]
  by_cases e : (f p).name.data.toList = (f k).name.data.toList
  · rw [e, Maps.has_put_same hD (by simp [WideAt.IsKeyLit])]
    simp [ByteArray.toList_eq, e]
  · rw [Maps.has_put_other (by simpa using e)]
    have : ((f k).name.toList == (f p).name.toList) = false := by simpa [ByteArray.toList_eq] using fun h => e (by rw [h])
    rw [this]
    simp

set_option maxRecDepth 100000 in
set_option maxHeartbeats 4000000 in
theorem nameAgain_any (b off n cap : Nat) (f : Nat → Deed) (w : World) (hn : (n : Int) ≤ 400) (hf : RowDeed w b off n f) (hs : ∀ i, i < n → (f i).name.size ≤ maxLen) :
    Calls Tryd.prog 37 #[.agg #[.slice (some ⟨b, off, none⟩) n cap]] w fun e w' => e = .returned (.int .i64 (firstNo (fun p => nameNew f p p) n)) ∧ Below w.heap.size w w' := by
  have HF := hide hf
  have HS := hide hs
  clear hf hs
  have A0 := hide (((Below.refl w.heap.size w).alloc (Nat.le_refl _) (.cells #[.slice (some ⟨b, off, none⟩) n cap] 30)).alloc (by simp) (.map #[] 0))
  have M0 := hide (World.ownsMap_made (w.alloc (.cells #[.slice (some ⟨b, off, none⟩) n cap] 30)) Tryd.prog 9 (plainElem (H := Unit) Tryd.prog 3))
  have hz : (w.alloc (.cells #[.slice (some ⟨b, off, none⟩) n cap] 30)).heap.size = w.heap.size + 1 := by simp
  rw [hz] at M0
  clear hz
  obtain ⟨r, hr⟩ : ∃ r, r = firstNo (fun p => nameNew f p p) n := ⟨_, rfl⟩
  rw [← hr]
  have HR := hide hr
  clear hr
  have hmm := @run_makeMap Tryd.prog
  go_enter Tryd.func37, Tryd.ntmps37
  go_wp2
  clear hmm
  generalize (w.alloc (.cells #[.slice (some ⟨b, off, none⟩) n cap] 30)).alloc (.map #[] 0) = W at A0 M0 ⊢
  obtain ⟨mb, hmb⟩ : ∃ mb, mb = w.heap.size + 1 := ⟨_, rfl⟩
  rw [← hmb] at M0 ⊢
  have HMB := hide hmb
  clear hmb
  go_loopw [12] (fun i wr => ∃ (k : Nat) (D : DataW Unit), k ≤ n ∧ i = .int .i64 k ∧ Hid (∀ j, j < k → nameNew f j j = true) ∧ Hid (wr.ownsMap Tryd.prog 9 (plainElem (H := Unit) Tryd.prog 3) mb k D) ∧ Hid (∀ p, Maps.has D (.string (f p).name.data.toList) = !nameNew f p k) ∧ Hid (Below w.heap.size w wr)) (fun i _ => n - (intOf i).toNat)
  case atStart => exact ⟨0, _, by omega, rfl, fun j hj => absurd hj (Nat.not_lt_zero _), M0.out, fun p => rfl, A0.out⟩
  case round =>
    obtain ⟨k, D, hk, rfl, HK, HM, HH, HB⟩ := hrel
    by_cases hlt : k < n
    · obtain ⟨p0, p1, p2, p3, ⟨a0, cap0, p4, q4⟩, ⟨a1, cap1, p5, q5⟩⟩ := (HF.out.below HB.out (Nat.le_refl _)).2 k hlt
      clear q4 q5
      have hkey := WideMaps.keyOf_string_mk (P := Tryd.prog) (k := 9) Tryd.underlying9 (HS.out k hlt)
      have HKEY := hide hkey
      have HHK := hide (HH.out k)
      clear hkey
      cases hnew : nameNew f k k with
      | false =>
        have hhas : Maps.has D (.string (f k).name.data.toList) = true := by rw [HHK.out, hnew]; rfl
        have HHS := hide hhas
        obtain rfl : r = k := by rw [HR.out]; exact firstNo_at hlt hnew HK.out
        clear hnew
        have B1 := hide (HB.out.alloc HB.out.size (.cells #[.string (f k).name, .int .i64 (f k).kind, .int .i64 (f k).code, .string (f k).text, .slice a0 (f k).actN cap0, .slice a1 (f k).linksN cap1] 59))
        go_wp2_with (at_lookup; refine wpList_lookup_own_ok_int _ rfl _ _ 93 rfl 9 3 .i64 (Maps.string_keyed Tryd.underlying9) Tryd.underlying93 Tryd.underlying3 (Tryd.zeroValue3 _) mb k D rfl (HM.out.alloc _) _ _ rfl HKEY.out ?_; intro c hat hwc; clear hat hwc)
        go_ret
        exact ⟨rfl, B1.out⟩
      | true =>
        have hhas : Maps.has D (.string (f k).name.data.toList) = false := by rw [HHK.out, hnew]; rfl
        have HNW := hide hnew
        clear hnew
        have hwf : (Lit.int .i64 (k : Int)).wf = true := by simp only [Lit.wf, IntKind.min, IntKind.max, IntKind.signed, IntKind.bits, Bool.and_eq_true, decide_eq_true_eq, if_true]; omega
        have HWF := hide hwf
        clear hwf
        go_wp2_with (first
          | (at_lookup; refine wpList_lookup_own_ok_int _ rfl _ _ 93 rfl 9 3 .i64 (Maps.string_keyed Tryd.underlying9) Tryd.underlying93 Tryd.underlying3 (Tryd.zeroValue3 _) mb k D rfl (HM.out.alloc _) _ _ rfl HKEY.out ?_; intro c hat hwc; clear hat hwc)
          | (at_mapUpdate; refine wpList_mapUpdate_own _ rfl _ _ _ 93 rfl 9 3 (Maps.string_keyed Tryd.underlying9) Tryd.underlying93 _ mb k D rfl (HM.out.alloc _) (by unfold maxLen; omega) _ _ _ rfl rfl HKEY.out _ [] (plainElem_int Tryd.underlying3 HWF.out) ?_; intro w1 hown1 hgrow1; have M1 := hide hown1; have B1 := hide (Below.grown (HB.out.alloc HB.out.size (.cells #[.string (f k).name, .int .i64 (f k).kind, .int .i64 (f k).code, .string (f k).text, .slice a0 (f k).actN cap0, .slice a1 (f k).linksN cap1] 59)) hgrow1 (by have := HB.out.size; simp; omega) (fun j e => by cases e; have := HMB.out; omega)); clear hown1 hgrow1))
        exact ⟨⟨k + 1, _, by omega, by go_num, fun j hj => by
          by_cases e : j = k
          · subst e; exact HNW.out
          · exact HK.out j (by omega), M1.out, new_has HM.out.isMap HH.out _, B1.out⟩, by simp [intOf]; omega⟩
    · have e : n = k := by omega
      subst e
      obtain rfl : r = -1 := by rw [HR.out]; exact firstNo_all HK.out
      go_wp2
      go_ret
      exact ⟨rfl, HB.out⟩

end Go.Proofs.YtggchgpphhhleaaDoor.Vp
