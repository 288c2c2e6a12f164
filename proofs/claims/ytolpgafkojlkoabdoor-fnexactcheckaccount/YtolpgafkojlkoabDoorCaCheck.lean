/-
  impl: CheckAccount.
-/
import Derived.Test.YtolpgafkojlkoabDoorCaTurn
namespace Go.Proofs.YtolpgafkojlkoabDoor.Vp
open Go.RowKit

theorem firstNo_ge (g : Nat → Bool) (n : Nat) : firstNo g n = -1 ∨ 0 ≤ firstNo g n := by
  induction n with
  | zero => exact .inl rfl
  | succ k ih =>
    rw [firstNo]
    split
    · split
      · exact .inl rfl
      · exact .inr (by omega)
    · exact ih
theorem offAt_ge (i : Nat) (xs : List (Nat × Nat)) : offAt i xs = -1 ∨ 0 ≤ offAt i xs := by
  induction xs generalizing i with
  | nil => exact .inl rfl
  | cons x xs ih =>
    rw [offAt]
    split
    · exact ih _
    · exact .inr (by omega)
theorem deepAt_ge (f : Nat → Deed) (xs : List (Nat × Nat)) : deepAt f xs = -1 ∨ 0 ≤ deepAt f xs := by
  induction xs with
  | nil => exact .inl rfl
  | cons x xs ih =>
    rw [deepAt]
    split
    · exact .inr (by omega)
    · exact ih
theorem links_of {f : Nat → Deed} {n : Nat} (h : firstNo (deedOk f) n = -1) : ∀ p, p < n → (f p).linksN ≤ 200 := by
  intro p hp
  have h1 := firstNo_ok h p hp
  simp only [deedOk, Bool.and_eq_true, kindOk] at h1
  obtain ⟨_, h2⟩ := h1
  split at h2
  · simp [unmadeOk] at h2
    omega
  · split at h2
    · simp [unmadeOk] at h2
      omega
    · split at h2
      · simp only [targetOk, Bool.and_eq_true, decide_eq_true_eq] at h2
        omega
      · cases h2
theorem names_of {f : Nat → Deed} {n : Nat} (h : firstNo (deedOk f) n = -1) : ∀ p, p < n → (f p).name.size ≤ maxLen := by
  intro p hp
  have h1 := firstNo_ok h p hp
  simp only [deedOk, nameOk, Bool.and_eq_true, decide_eq_true_eq] at h1
  unfold maxLen
  omega
theorem listing_len {f : Nat → Deed} {n : Nat} (hA : Ahead f n) (hn : 1 ≤ n) : (listing f n).length ≤ n := by
  have h := (lst_inv hA n (n - 1) 0 (fun _ => false) (by omega) (by omega) rfl).num
  have h2 := cnt_le (lst f n (n - 1) 0 (fun _ => false)).1 n
  have h3 : ∀ k, cnt (fun _ => false) k = 0 := by
    intro k
    induction k with
    | zero => rfl
    | succ j ih => rw [cnt, ih]; rfl
  rw [h3] at h
  unfold listing
  omega

structure FourB (w : World) (b : Nat) (v0 v1 v2 v3 : Value) : Prop where
  lt : b < w.heap.size
  c0 : w.cell? ⟨b, 0, none⟩ = some v0
  c1 : w.cell? ⟨b, 1, none⟩ = some v1
  c2 : w.cell? ⟨b, 2, none⟩ = some v2
  c3 : w.cell? ⟨b, 3, none⟩ = some v3
theorem fun_box (w : World) (v0 v1 v2 v3 : Value) (t : TypeId) : FourB (w.alloc (.cells #[v0, v1, v2, v3] t)) w.heap.size v0 v1 v2 v3 := ⟨by simp, by simp, by simp, by simp, by simp⟩

set_option maxRecDepth 100000 in
set_option maxHeartbeats 4000000 in
theorem implAcc_any (a : Option Addr) (n cap : Nat) (f : Nat → Deed) (w : World) (hn : (n : Int) ≤ 1048576) (hv : SlDeed w a n f) (hcap : (n : Int) ≤ cap) (hfit : ∀ i, i < n → FitsDeed (f i)) (hT : Tab w) :
    Calls Tryd.prog 7 #[.agg #[.slice a n cap]] w fun e w' => e = .returned (.tuple #[.int .i64 (accC f n).1, .int .i64 (accC f n).2]) ∧ Below w.heap.size w w' := by
  have HV := hide hv
  have HM := hide hfit
  have HT := hide hT
  clear hv hfit hT
  have A0 := hide ((Below.refl w.heap.size w).alloc (Nat.le_refl _) (.cells #[.slice a n cap] 30))
  have k0 : (w.alloc (.cells #[.slice a n cap] 30)).cell? ⟨w.heap.size, 0, none⟩ = some (.slice a n cap) := by simp
  obtain ⟨c1, c2, hacc⟩ : ∃ c1 c2, accC f n = (c1, c2) := ⟨_, _, rfl⟩
  rw [hacc]
  have HC := hide hacc
  clear hacc
  by_cases h0 : (n : Int) = 0
  · have e1 : c1 = 1 ∧ c2 = 0 := by have := HC.out; unfold accC at this; rw [if_pos (.inl (by omega))] at this; simp only [Prod.mk.injEq] at this; omega
    clear HC
    obtain ⟨e1, e2⟩ := e1
    subst e1 e2
    obtain rfl : n = 0 := by omega
    go_enter Tryd.func7, Tryd.ntmps7
    go_wp2
    go_ret2
    exact ⟨rfl, A0⟩
  by_cases h4 : (400 : Int) < (n : Int)
  · have e1 : c1 = 1 ∧ c2 = 0 := by have := HC.out; unfold accC at this; rw [if_pos (.inr (by omega))] at this; simp only [Prod.mk.injEq] at this; omega
    clear HC
    obtain ⟨e1, e2⟩ := e1
    subst e1 e2
    have h0' : ((n : Int) == 0) = false := by simpa using h0
    go_enter Tryd.func7, Tryd.ntmps7
    go_wp2
    go_ret2
    exact ⟨rfl, A0⟩
  have HC1 : Hid ((if firstNo (deedOk f) n ≠ -1 then ((2 : Int), firstNo (deedOk f) n) else if firstNo (fun p => nameNew f p p) n ≠ -1 then (3, firstNo (fun p => nameNew f p p) n) else if offAt 0 (listing f n) ≠ -1 then (4, offAt 0 (listing f n)) else if deepAt f (listing f n) ≠ -1 then (5, deepAt f (listing f n)) else (0, 0)) = (c1, c2)) := by
    have := HC.out
    unfold accC at this
    rw [if_neg (by omega)] at this
    exact this
  clear HC
  obtain ⟨b, off, rfl, hrow⟩ := HV.resolve_left (by omega)
  have HR := hide hrow
  have h0' : ((n : Int) == 0) = false := by simpa using h0
  clear HV hrow
  have hn4 : (n : Int) ≤ 400 := by omega
  have B0 := hide (A0.alloc (by simp) (.cells #[.func (.func 13) #[] #[], .func (.func 14) #[] #[], .func (.func 15) #[] #[], .func (.func 16) #[] #[]] 49))
  go_enter Tryd.func7, Tryd.ntmps7
  go_wp2
  have hz1 : (w.alloc (.cells #[.slice (some ⟨b, off, none⟩) n cap] 30)).heap.size = w.heap.size + 1 := by simp
  have FB := hide (fun_box (w.alloc (.cells #[.slice (some ⟨b, off, none⟩) n cap] 30)) (.func (.func 13) #[] #[]) (.func (.func 14) #[] #[]) (.func (.func 15) #[] #[]) (.func (.func 16) #[] #[]) 49)
  rw [hz1] at FB
  have k1 := (((Below.refl (w.heap.size + 1) (w.alloc (.cells #[.slice (some ⟨b, off, none⟩) n cap] 30))).alloc (by omega) (.cells #[.func (.func 13) #[] #[], .func (.func 14) #[] #[], .func (.func 15) #[] #[], .func (.func 16) #[] #[]] 49)).cell (p := ⟨w.heap.size, 0, none⟩) (Nat.lt_succ_self _)).trans k0
  clear hz1 k0 A0
  generalize World.alloc (World.alloc w _) _ = W at B0 FB k1 ⊢
  have hW0 : w.heap.size + 1 < W.heap.size := FB.lt
  go_loopw [21] (fun i wr => ∃ k : Nat, k ≤ 4 ∧ i = .int .i64 k ∧ Hid (1 ≤ k → firstNo (deedOk f) n = -1) ∧ Hid (2 ≤ k → firstNo (fun p => nameNew f p p) n = -1) ∧ Hid (3 ≤ k → offAt 0 (listing f n) = -1) ∧ Hid (4 ≤ k → deepAt f (listing f n) = -1) ∧ Hid (Below W.heap.size W wr)) (fun i _ => 4 - (intOf i).toNat)
  case atStart => exact ⟨0, by omega, rfl, fun h => by omega, fun h => by omega, fun h => by omega, fun h => by omega, Below.refl _ _⟩
  case round =>
    obtain ⟨k, hk, rfl, H1, H2, H3, H4, HB⟩ := hrel
    have k2 := (HB.cell (p := ⟨w.heap.size, 0, none⟩) (by show w.heap.size < _; omega)).trans k1
    have G0 := hide (B0.trans (HB.mono B0.size))
    by_cases hlt : k < 4
    · rcases (show (True ∧ k = 0) ∨ (True ∧ k = 1) ∨ (True ∧ k = 2) ∨ (True ∧ k = 3) by rcases (show k = 0 ∨ k = 1 ∨ k = 2 ∨ k = 3 by omega) with h | h | h | h <;> simp [h]) with ⟨M0, rfl⟩ | ⟨M1, rfl⟩ | ⟨M2, rfl⟩ | ⟨M3, rfl⟩
      all_goals
        first
          | (guard_hyp M0; have d0 := (HB.cell (p := ⟨w.heap.size + 1, 0, none⟩) hW0).trans FB.c0; have HX := hide (wrongDeed_any b off n cap f _ hn4 (HR.below G0 (Nat.le_refl _)) hcap HM (HT.below G0 HT.1)); have HG := hide (firstNo_ge _ _ : firstNo (deedOk f) n = -1 ∨ 0 ≤ firstNo (deedOk f) n); obtain ⟨X, hX⟩ : ∃ X, X = firstNo (deedOk f) n := ⟨_, rfl⟩)
          | (guard_hyp M1; have d0 := (HB.cell (p := ⟨w.heap.size + 1, 1, none⟩) hW0).trans FB.c1; have HX := hide (nameAgain_any b off n cap f _ hn4 (HR.below G0 (Nat.le_refl _)) (names_of (H1 (by omega)))); have HG := hide (firstNo_ge _ _ : firstNo (fun p => nameNew f p p) n = -1 ∨ 0 ≤ firstNo (fun p => nameNew f p p) n); obtain ⟨X, hX⟩ : ∃ X, X = firstNo (fun p => nameNew f p p) n := ⟨_, rfl⟩)
          | (guard_hyp M2; have d0 := (HB.cell (p := ⟨w.heap.size + 1, 2, none⟩) hW0).trans FB.c2; have HX := hide (outOfTurn_any b off n cap f _ (ahead_of (H1 (by omega))) (by omega) hn4 (HR.below G0 (Nat.le_refl _)) (links_of (H1 (by omega))) (by have := listing_len (ahead_of (H1 (by omega))) (n := n) (by omega); omega)); have HG := hide (offAt_ge _ _ : offAt 0 (listing f n) = -1 ∨ 0 ≤ offAt 0 (listing f n)); obtain ⟨X, hX⟩ : ∃ X, X = offAt 0 (listing f n) := ⟨_, rfl⟩)
          | (guard_hyp M3; have d0 := (HB.cell (p := ⟨w.heap.size + 1, 3, none⟩) hW0).trans FB.c3; have HX := hide (tooDeep_any b off n cap f _ (ahead_of (H1 (by omega))) (by omega) hn4 (HR.below G0 (Nat.le_refl _)) (links_of (H1 (by omega)))); have HG := hide (deepAt_ge _ _ : deepAt f (listing f n) = -1 ∨ 0 ≤ deepAt f (listing f n)); obtain ⟨X, hX⟩ : ∃ X, X = deepAt f (listing f n) := ⟨_, rfl⟩)
        rw [← hX] at HX HG
        have HXX := hide hX
        clear hX
        go_wp2_with fail
        refine HX.mono ?_
        rintro e w2 ⟨rfl, hB⟩
        have G1 := hide (G0.trans (hB.mono G0.size))
        have H1B := hide (HB.trans (hB.mono HB.size))
        clear hB HX
        by_cases hx : X = -1
        · have HE := hide (HXX.symm.trans hx)
          have hd : decide (0 ≤ X) = false := by rw [hx]; rfl
          clear hx
          go_wp2
          first
            | (guard_hyp M0; exact ⟨⟨0 + 1, by omega, by go_num, fun _ => HE, fun h => by omega, fun h => by omega, fun h => by omega, H1B⟩, by simp [intOf]⟩)
            | (guard_hyp M1; exact ⟨⟨1 + 1, by omega, by go_num, fun _ => H1 (by omega), fun _ => HE, fun h => by omega, fun h => by omega, H1B⟩, by simp [intOf]⟩)
            | (guard_hyp M2; exact ⟨⟨2 + 1, by omega, by go_num, fun _ => H1 (by omega), fun _ => H2 (by omega), fun _ => HE, fun h => by omega, H1B⟩, by simp [intOf]⟩)
            | (guard_hyp M3; exact ⟨⟨3 + 1, by omega, by go_num, fun _ => H1 (by omega), fun _ => H2 (by omega), fun _ => H3 (by omega), fun _ => HE, H1B⟩, by simp [intOf]⟩)
        · have e1 := HC1.out
          (try rw [if_neg (by rw [H1.out (by omega)]; simp)] at e1)
          (try rw [if_neg (by rw [H2.out (by omega)]; simp)] at e1)
          (try rw [if_neg (by rw [H3.out (by omega)]; simp)] at e1)
          rw [if_pos (by rw [← HXX.out]; exact hx), ← HXX.out] at e1
          simp only [Prod.mk.injEq] at e1
          have hge : 0 ≤ X := HG.resolve_left hx
          obtain ⟨e1, e2⟩ := e1
          clear HC1 hx HG
          subst e1 e2
          go_wp2
          go_ret2
          exact ⟨rfl, G1⟩
    · obtain rfl : k = 4 := by omega
      have e1 : c1 = 0 ∧ c2 = 0 := by
        have := HC1.out
        rw [if_neg (by rw [H1.out (by omega)]; simp), if_neg (by rw [H2.out (by omega)]; simp), if_neg (by rw [H3.out (by omega)]; simp), if_neg (by rw [H4.out (by omega)]; simp)] at this
        simp only [Prod.mk.injEq] at this
        omega
      obtain ⟨e1, e2⟩ := e1
      clear HC1
      subst e1 e2
      go_wp2
      go_ret2
      exact ⟨rfl, G0⟩

end Go.Proofs.YtolpgafkojlkoabDoor.Vp
