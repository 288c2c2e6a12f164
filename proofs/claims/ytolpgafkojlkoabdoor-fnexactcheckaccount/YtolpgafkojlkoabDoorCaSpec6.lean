/-
  spec: CheckAccount.
-/
import Derived.Test.YtolpgafkojlkoabDoorCaSpec5
namespace Go.Proofs.YtolpgafkojlkoabDoor.Vp
open Go.RowKit

theorem addr_add' (b o j : Nat) : (⟨b, o, none⟩ : Addr).add j = ⟨b, o + j, none⟩ := by unfold Addr.add; split <;> simp_all

set_option maxRecDepth 100000 in
set_option maxHeartbeats 8000000 in
theorem specAcc_any (a : Option Addr) (n cap : Nat) (f : Nat → Deed) (w : World) (hn : (n : Int) ≤ 1048576) (hv : SlDeed w a n f) (hfit : ∀ i, i < n → FitsDeed (f i)) (hsz : ∀ i, i < n → SizedDeed (f i)) :
    Calls Tryd.prog 5 #[.agg #[.slice a n cap]] w fun e w' => e = .returned (.tuple #[.int .i64 (accC f n).1, .int .i64 (accC f n).2]) ∧ Below w.heap.size w w' := by
  have HV := hide hv
  have HM := hide hfit
  have HZ := hide hsz
  clear hv hfit hsz
  have A0 := hide ((Below.refl w.heap.size w).alloc (Nat.le_refl _) (.cells #[.slice a n cap] 30))
  have k0 : (w.alloc (.cells #[.slice a n cap] 30)).cell? ⟨w.heap.size, 0, none⟩ = some (.slice a n cap) := by simp
  obtain ⟨c1, c2, hacc⟩ : ∃ c1 c2, accC f n = (c1, c2) := ⟨_, _, rfl⟩
  rw [hacc]
  have HC := hide hacc
  clear hacc
  by_cases h0 : (n : Int) < 1
  · have e1 : c1 = 1 ∧ c2 = 0 := by have := HC.out; unfold accC at this; rw [if_pos (.inl (by omega))] at this; simp only [Prod.mk.injEq] at this; omega
    clear HC
    obtain ⟨e1, e2⟩ := e1
    subst e1 e2
    go_enter Tryd.func5, Tryd.ntmps5
    go_wp2
    go_ret2
    exact ⟨rfl, A0⟩
  by_cases h4 : (400 : Int) < (n : Int)
  · have e1 : c1 = 1 ∧ c2 = 0 := by have := HC.out; unfold accC at this; rw [if_pos (.inr (by omega))] at this; simp only [Prod.mk.injEq] at this; omega
    clear HC
    obtain ⟨e1, e2⟩ := e1
    subst e1 e2
    go_enter Tryd.func5, Tryd.ntmps5
    go_wp2
    go_ret2
    exact ⟨rfl, A0⟩
  have HC1 : Hid ((if firstNo (deedOk f) n ≠ -1 then ((2 : Int), firstNo (deedOk f) n) else if firstNo (fun p => nameNew f p p) n ≠ -1 then (3, firstNo (fun p => nameNew f p p) n) else if offAt 0 (listing f n) ≠ -1 then (4, offAt 0 (listing f n)) else if deepAt f (listing f n) ≠ -1 then (5, deepAt f (listing f n)) else (0, 0)) = (c1, c2)) := by
    have := HC.out
    unfold accC at this
    rw [if_neg (by omega)] at this
    exact this
  clear HC
  obtain ⟨b, off, rfl, hrow⟩ := HV.resolve_left (by omega)
  have HR := hide hrow
  clear HV hrow
  have hn4 : (n : Int) ≤ 400 := by omega
  have hw0 : w.heap.size < (w.alloc (.cells #[.slice (some ⟨b, off, none⟩) n cap] 30)).heap.size := by simp
  go_enter Tryd.func5, Tryd.ntmps5
  go_wp2
  generalize World.alloc w _ = W at A0 k0 hw0 ⊢
  go_loopw [5] (fun i wr => ∃ k : Nat, k ≤ n ∧ i = .int .i64 k ∧ Hid (∀ j, j < k → deedOk f j = true) ∧ Hid (Below W.heap.size W wr)) (fun i _ => n - (intOf i).toNat)
  case atStart => exact ⟨0, by omega, rfl, fun j hj => absurd hj (Nat.not_lt_zero _), Below.refl _ _⟩
  case round =>
    obtain ⟨k, hk, rfl, HK, HB⟩ := hrel
    have k1 := (HB.cell (p := ⟨w.heap.size, 0, none⟩) hw0).trans k0
    have G0 := hide (A0.trans (HB.mono A0.size))
    by_cases hlt : k < n
    · go_wp2_with fail
      refine (l3DeedOk_any b off n cap k f _ hlt (HR.below G0 (Nat.le_refl _)) (HM k hlt).1 (HZ k hlt).2.2.1.2).mono ?_
      rintro e w2 ⟨he, hB⟩
      have G1 := hide (G0.trans (hB.mono G0.size))
      have H1 := hide (HB.trans (hB.mono HB.size))
      clear hB
      cases hd : deedOk f k with
      | true =>
        rw [hd] at he
        subst he
        have HD := hide hd
        clear hd
        go_wp2
        exact ⟨⟨k + 1, by omega, by go_num, fun j hj => by
          by_cases e : j = k
          · subst e; exact HD
          · exact HK j (by omega), H1⟩, by simp [intOf]; omega⟩
      | false =>
        rw [hd] at he
        subst he
        have hfn := firstNo_at hlt hd HK.out
        have e1 : c1 = 2 ∧ c2 = (k : Int) := by
          have := HC1.out
          rw [if_pos (by rw [hfn]; omega), hfn] at this
          simp only [Prod.mk.injEq] at this
          omega
        obtain ⟨e1, e2⟩ := e1
        clear HC1 hfn hd
        subst e1 e2
        go_wp2
        go_ret2
        exact ⟨rfl, G1⟩
    · have e : n = k := by omega
      subst e
      have hf1 := firstNo_all HK.out
      have HC2 : Hid ((if firstNo (fun p => nameNew f p p) n ≠ -1 then ((3 : Int), firstNo (fun p => nameNew f p p) n) else if offAt 0 (listing f n) ≠ -1 then (4, offAt 0 (listing f n)) else if deepAt f (listing f n) ≠ -1 then (5, deepAt f (listing f n)) else (0, 0)) = (c1, c2)) := by
        have := HC1.out
        rw [if_neg (by rw [hf1]; simp)] at this
        exact this
      have HF1 := hide hf1
      clear HC1 hf1 HK
      go_wp2
      clear hlt hk k1
      generalize wr = W2 at HB G0 ⊢
      have k1 := (HB.cell (p := ⟨w.heap.size, 0, none⟩) hw0).trans k0
      have hw2 : w.heap.size < W2.heap.size := Nat.lt_of_lt_of_le hw0 HB.size
      go_loopw [6] (fun i wr => ∃ k : Nat, k ≤ n ∧ i = .int .i64 k ∧ Hid (∀ j, j < k → nameNew f j j = true) ∧ Hid (Below W2.heap.size W2 wr)) (fun i _ => n - (intOf i).toNat)
      case atStart => exact ⟨0, by omega, rfl, fun j hj => absurd hj (Nat.not_lt_zero _), Below.refl _ _⟩
      case round =>
        obtain ⟨k, hk, rfl, HK, HB3⟩ := hrel
        by_cases hlt : k < n
        · go_wp2
          generalize wr = W3 at HB3 ⊢
          go_loopw [7] (fun i wr => ∃ m : Nat, m ≤ k ∧ i = .int .i64 m ∧ Hid (nameNew f k m = true) ∧ Hid (Below W2.heap.size W2 wr)) (fun i _ => k - (intOf i).toNat)
          case atStart => exact ⟨0, by omega, rfl, rfl, HB3⟩
          case round =>
            obtain ⟨m, hm, rfl, HN, HB4⟩ := hrel
            have k2 := (HB4.cell (p := ⟨w.heap.size, 0, none⟩) hw2).trans k1
            have G1 := hide (G0.trans (HB4.mono G0.size))
            by_cases hlm : m < k
            · have d0 := ((HR.below G1 (Nat.le_refl _)).2 m (by omega)).1
              have d1 := ((HR.below G1 (Nat.le_refl _)).2 k hlt).1
              have hm0 : (0 : Int) ≤ m := by omega
              have hmn : (m : Int) < n := by omega
              have hk0 : (0 : Int) ≤ k := by omega
              have hkn : (k : Int) < n := by omega
              cases hq : ((f m).name.toList == (f k).name.toList) with
              | true =>
                have hnn : nameNew f k k = false := new_no hlm (by rw [nameNew, hq]; simp)
                have hfn := firstNo_at (g := fun p => nameNew f p p) hlt hnn HK
                have e1 : c1 = 3 ∧ c2 = (k : Int) := by
                  have := HC2.out
                  rw [if_pos (by rw [hfn]; omega), hfn] at this
                  simp only [Prod.mk.injEq] at this
                  omega
                obtain ⟨e1, e2⟩ := e1
                clear HC2 hfn hnn
                subst e1 e2
                go_wp2_with fail
                go_quiet (fail)
                have G2 := hide (below_drewN G1 nq)
                go_wp2
                go_ret2
                exact ⟨rfl, G2⟩
              | false =>
                have HN1 : Hid (nameNew f k (m + 1) = true) := by show nameNew f k (m + 1) = true; rw [nameNew, HN.out, hq]; rfl
                go_wp2_with fail
                go_quiet (fail)
                have H5 := hide (below_drewN HB4 nq)
                go_wp2
                exact ⟨⟨m + 1, by omega, by go_num, HN1, H5⟩, by simp [intOf]; omega⟩
            · have e : m = k := by omega
              subst e
              go_wp2
              exact ⟨⟨m + 1, by omega, by go_num, fun j hj => by
                by_cases e : j = m
                · subst e; exact HN
                · exact HK j (by omega), HB4⟩, by simp [intOf]; omega⟩
        · have e : n = k := by omega
          subst e
          have hf2 := firstNo_all (g := fun p => nameNew f p p) HK
          have HC3 : Hid ((if offAt 0 (listing f n) ≠ -1 then ((4 : Int), offAt 0 (listing f n)) else if deepAt f (listing f n) ≠ -1 then (5, deepAt f (listing f n)) else (0, 0)) = (c1, c2)) := by
            have := HC2.out
            rw [if_neg (by rw [hf2]; simp)] at this
            exact this
          clear HC2 hf2 HK
          have k2 := (HB3.cell (p := ⟨w.heap.size, 0, none⟩) hw2).trans k1
          have G1 := hide (G0.trans (HB3.mono G0.size))
          have HLL := hide (listing_len (ahead_of HF1) (n := n) (by omega))
          have hn1 : 1 ≤ n := by omega
          go_wp2_with fail
          refine (l3Order_any b off n cap f _ (ahead_of HF1) hn1 hn4 (HR.below G1 (Nat.le_refl _)) (links_of HF1)).mono ?_
          rintro e w5 ⟨H, ov, rfl, hHl, hc2, hO, hc3, hB⟩
          have G5 := hide (G1.trans (hB.mono G1.size))
          obtain ⟨o, ho⟩ := listing_last (f := f) hn1
          have hlp : 0 < (listing f n).length := by rw [ho]; simp
          have HFULL := hide (fun h => listing_full (f := f) hn1 h)
          clear ho o
          obtain ⟨L, hL⟩ : ∃ L, L = listing f n := ⟨_, rfl⟩
          rw [← hL] at hO hc3 hlp HC3 HLL HFULL
          clear hL
          obtain ⟨g, oc, rfl⟩ : ∃ g c, ov = .slice (some ⟨g, 0, none⟩) L.length c := by
            rcases hO.2 with ⟨_, h2⟩ | ⟨g, c, cur, h1, _⟩
            · omega
            · exact ⟨g, c, h1⟩
          have HOC : Hid (∀ j (h : j < L.length), w5.cell? ⟨g, j, none⟩ = some (.int .i64 ((L[j]).1 : Int)) ∧ g < w5.heap.size) := by
            intro j hj
            have h1 := hO.cells (g := g) rfl j (.int .i64 ((L[j]).1 : Int)) (by rw [List.getElem?_map, List.getElem?_eq_getElem hj]; rfl)
            rw [addr_add', Nat.zero_add] at h1
            exact ⟨h1, (hO.lt g rfl).2⟩
          have hll := HLL.out
          clear hO hB k2
          go_wp2
          go_loopw [9] (fun i wr => ∃ k : Nat, k ≤ n ∧ i = .int .i64 k ∧ Hid (∀ j, j < k → ∃ h : j < L.length, (L[j]).1 = j) ∧ Hid (Below w5.heap.size w5 wr)) (fun i _ => n - (intOf i).toNat)
          case atStart => exact ⟨0, by omega, rfl, fun j hj => absurd hj (Nat.not_lt_zero _), Below.refl _ _⟩
          case round =>
            obtain ⟨k, hk, rfl, HK, HB6⟩ := hrel
            have e2 := (HB6.cell (p := ⟨H, 2, none⟩) hHl).trans hc2
            have e3 := (HB6.cell (p := ⟨H, 3, none⟩) hHl).trans hc3
            have G6 := hide (G5.trans (HB6.mono G5.size))
            by_cases hlt : k < n
            · by_cases hkl : k < L.length
              · obtain ⟨q1, q2⟩ := HOC.out k hkl
                have d0 := (HB6.cell (p := ⟨g, k, none⟩) q2).trans q1
                have hkl' : (k : Int) < (L.length : Int) := by omega
                have hno : decide ((L.length : Int) ≤ (k : Int)) = false := by simp; omega
                have hno' : decide (L.length ≤ k) = false := by simp; omega
                have hk0 : (0 : Int) ≤ k := by omega
                obtain ⟨z, hz⟩ : ∃ z, z = (L[k]).1 := ⟨_, rfl⟩
                rw [← hz] at d0
                have HZZ := hide hz
                clear q1 q2 hz
                by_cases hx : (z : Int) = (k : Int)
                · have HN : Hid (∀ j, j < k + 1 → ∃ h : j < L.length, (L[j]).1 = j) := fun j hj => by
                    by_cases e : j = k
                    · subst e
                      exact ⟨hkl, by rw [← HZZ.out]; omega⟩
                    · exact HK j (by omega)
                  obtain rfl : z = k := by omega
                  clear hx HZZ
                  go_wp2
                  exact ⟨⟨z + 1, by omega, by go_num, HN, HB6⟩, by simp [intOf]; omega⟩
                · have hoff : offAt 0 L = (k : Int) := by
                    have := offAt_at (L := L) (i := 0) (j := k) hkl (fun m hm => by obtain ⟨h, e⟩ := HK.out m hm; omega) (by rw [← HZZ.out]; omega)
                    simpa using this
                  have e1 : c1 = 4 ∧ c2 = (k : Int) := by
                    have := HC3.out
                    rw [if_pos (by rw [hoff]; omega), hoff] at this
                    simp only [Prod.mk.injEq] at this
                    omega
                  have hne : ((z : Int) != (k : Int)) = true := by simpa using hx
                  obtain ⟨e1, e2'⟩ := e1
                  clear HC3 hoff HZZ
                  subst e1 e2'
                  go_wp2
                  go_ret2
                  exact ⟨rfl, G6⟩
              · have := HFULL.out fun j hj => by obtain ⟨h, e⟩ := HK.out j (by omega); exact e
                omega
            · have e : n = k := by omega
              subst e
              have hall : ∀ j (h : j < L.length), (L[j]).1 = 0 + j := fun j hj => by obtain ⟨h, e⟩ := HK.out j (by omega); omega
              have hoff := offAt_all hall
              rw [deepTo_first hall] at e3
              have HC4 : Hid ((if deepAt f L ≠ -1 then ((5 : Int), deepAt f L) else (0, 0)) = (c1, c2)) := by
                have := HC3.out
                rw [if_neg (by rw [hoff]; simp)] at this
                exact this
              have hge := deepAt_ge f L
              generalize deepAt f L = X at e3 HC4 hge
              have HGE := hide hge
              clear HC3 hoff hall hge e2
              by_cases hx : X = -1
              · have e1 : c1 = 0 ∧ c2 = 0 := by
                  have := HC4.out
                  rw [if_neg (by rw [hx]; simp)] at this
                  simp only [Prod.mk.injEq] at this
                  omega
                obtain ⟨e1, e2'⟩ := e1
                have hd : decide (0 ≤ X) = false := by rw [hx]; rfl
                clear HC4 hx
                subst e1 e2'
                go_wp2
                go_ret2
                exact ⟨rfl, G6⟩
              · have e1 : c1 = 5 ∧ c2 = X := by
                  have := HC4.out
                  rw [if_pos hx] at this
                  simp only [Prod.mk.injEq] at this
                  omega
                have hge : 0 ≤ X := HGE.resolve_left hx
                obtain ⟨e1, e2'⟩ := e1
                clear HC4 hx HGE
                subst e1 e2'
                go_wp2_with fail
                go_quiet (fail)
                have G7 := hide (below_drewN G6 nq)
                go_wp2
                go_ret2
                exact ⟨rfl, G7⟩

end Go.Proofs.YtolpgafkojlkoabDoor.Vp
