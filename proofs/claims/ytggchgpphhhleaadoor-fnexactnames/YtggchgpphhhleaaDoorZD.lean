/-
  Put together of: CaSpec6, VpOpen, CaOpen, NmList.
-/
import Derived.Test.YtggchgpphhhleaaDoorZC
import Derived.Test.YtggchgpphhhleaaDoorZB
import Derived.Test.YtggchgpphhhleaaDoorCards
import Derived.ProofKit
import Derived.OpenShut
import Derived.Deep.Slices
import Derived.Deep.Strs
import Derived.MakeChecks
import Derived.Test.YtggchgpphhhleaaDoorZA
import Derived.Test.YtggchgpphhhleaaDoorTie
import Derived.Deep.DeepHandedRow
import Derived.Lib.SmallJoins

/-
  spec: CheckAccount.
-/
namespace Go.Proofs.YtggchgpphhhleaaDoor.Vp
open Go.RowKit

theorem addr_add' (b o j : Nat) : (⟨b, o, none⟩ : Addr).add j = ⟨b, o + j, none⟩ := by unfold Addr.add; split <;> simp_all

set_option maxRecDepth 100000 in
set_option maxHeartbeats 8000000 in
theorem specAcc_any (a : Option Addr) (n cap : Nat) (f : Nat → Deed) (w : World) (hn : (n : Int) ≤ 1048576) (hv : SlDeed w a n f) (hfit : ∀ i, i < n → FitsDeed (f i)) (hsz : ∀ i, i < n → SizedDeed (f i)) :
    Calls Tryd.prog 9 #[.agg #[.slice a n cap]] w fun e w' => e = .returned (.tuple #[.int .i64 (accC f n).1, .int .i64 (accC f n).2]) ∧ Below w.heap.size w w' := by
  have HV := hide hv
  have HM := hide hfit
  have HZ := hide hsz
  clear hv hfit hsz
  have A0 := hide ((Below.refl w.heap.size w).alloc (Nat.le_refl _) (.cells #[.slice a n cap] 30))
  have k0 : (w.alloc (.cells #[.slice a n cap] 30)).cell? ⟨w.heap.size, 0, none⟩ = some (.slice a n cap) := by simp
  obtain ⟨c1, c2, hacc⟩ : ∃ c1 c2, accC f n = (c1, c2) := ⟨_, _, rfl⟩
  rw [hacc]
  have HC := hide hacc
  clear hacc
  by_cases h0 : (n : Int) < 1
  · have e1 : c1 = 1 ∧ c2 = 0 := by have := HC.out; unfold accC at this; rw [if_pos (.inl (by omega))] at this; simp only [Prod.mk.injEq] at this; omega
    clear HC
    obtain ⟨e1, e2⟩ := e1
    subst e1 e2
    go_enter Tryd.func9, Tryd.ntmps9
    go_wp2
    go_ret2
    exact ⟨rfl, A0.out⟩
  by_cases h4 : (400 : Int) < (n : Int)
  · have e1 : c1 = 1 ∧ c2 = 0 := by have := HC.out; unfold accC at this; rw [if_pos (.inr (by omega))] at this; simp only [Prod.mk.injEq] at this; omega
    clear HC
    obtain ⟨e1, e2⟩ := e1
    subst e1 e2
    go_enter Tryd.func9, Tryd.ntmps9
    go_wp2
    go_ret2
    exact ⟨rfl, A0.out⟩
  have HC1 : Hid ((if firstNo (deedOk f) n ≠ -1 then ((2 : Int), firstNo (deedOk f) n) else if firstNo (fun p => nameNew f p p) n ≠ -1 then (3, firstNo (fun p => nameNew f p p) n) else if offAt 0 (listing f n) ≠ -1 then (4, offAt 0 (listing f n)) else if deepAt f (listing f n) ≠ -1 then (5, deepAt f (listing f n)) else (0, 0)) = (c1, c2)) := by
    have := HC.out
    unfold accC at this
    rw [if_neg (by omega)] at this
    exact this
  clear HC
  obtain ⟨b, off, rfl, hrow⟩ := HV.out.resolve_left (by omega)
  have HR := hide hrow
  clear HV hrow
  have hn4 : (n : Int) ≤ 400 := by omega
  have hw0 : w.heap.size < (w.alloc (.cells #[.slice (some ⟨b, off, none⟩) n cap] 30)).heap.size := by simp
  go_enter Tryd.func9, Tryd.ntmps9
  go_wp2
  generalize w.alloc (.cells #[.slice (some ⟨b, off, none⟩) n cap] 30) = W at A0 k0 hw0 ⊢
  go_loopw [5] (fun i wr => ∃ k : Nat, k ≤ n ∧ i = .int .i64 k ∧ Hid (∀ j, j < k → deedOk f j = true) ∧ Hid (Below W.heap.size W wr)) (fun i _ => n - (intOf i).toNat)
  case atStart => exact ⟨0, by omega, rfl, fun j hj => absurd hj (Nat.not_lt_zero _), Below.refl _ _⟩
  case round =>
    obtain ⟨k, hk, rfl, HK, HB⟩ := hrel
    have k1 := (HB.out.cell (p := ⟨w.heap.size, 0, none⟩) hw0).trans k0
    have G0 := hide (A0.out.trans (HB.out.mono A0.out.size))
    by_cases hlt : k < n
    · go_wp2_with fail
      refine (l3DeedOk_any b off n cap k f _ hlt (HR.out.below G0.out (Nat.le_refl _)) (HM.out k hlt).1 (HZ.out k hlt).2.2.1.2).mono ?_
      rintro e w2 ⟨he, hB⟩
      have G1 := hide (G0.out.trans (hB.mono G0.out.size))
      have H1 := hide (HB.out.trans (hB.mono HB.out.size))
      clear hB
      cases hd : deedOk f k with
      | true =>
        rw [hd] at he
        subst he
        have HD := hide hd
        clear hd
        go_wp2
        exact ⟨⟨k + 1, by omega, by go_num, fun j hj => by
          by_cases e : j = k
          · subst e; exact HD.out
          · exact HK.out j (by omega), H1.out⟩, by simp [intOf]; omega⟩
      | false =>
        rw [hd] at he
        subst he
        have hfn := firstNo_at hlt hd HK.out
        have e1 : c1 = 2 ∧ c2 = (k : Int) := by
          have := HC1.out
          rw [if_pos (by rw [hfn]; omega), hfn] at this
          simp only [Prod.mk.injEq] at this
          omega
        obtain ⟨e1, e2⟩ := e1
        clear HC1 hfn hd
        subst e1 e2
        go_wp2
        go_ret2
        exact ⟨rfl, G1.out⟩
    · have e : n = k := by omega
      subst e
      have hf1 := firstNo_all HK.out
      have HC2 : Hid ((if firstNo (fun p => nameNew f p p) n ≠ -1 then ((3 : Int), firstNo (fun p => nameNew f p p) n) else if offAt 0 (listing f n) ≠ -1 then (4, offAt 0 (listing f n)) else if deepAt f (listing f n) ≠ -1 then (5, deepAt f (listing f n)) else (0, 0)) = (c1, c2)) := by
        have := HC1.out
        rw [if_neg (by rw [hf1]; simp)] at this
        exact this
      have HF1 := hide hf1
      clear HC1 hf1 HK
      go_wp2
      clear hlt hk k1
      generalize wr = W2 at HB G0 ⊢
      have k1 := (HB.out.cell (p := ⟨w.heap.size, 0, none⟩) hw0).trans k0
      have hw2 : w.heap.size < W2.heap.size := Nat.lt_of_lt_of_le hw0 HB.out.size
      go_loopw [6] (fun i wr => ∃ k : Nat, k ≤ n ∧ i = .int .i64 k ∧ Hid (∀ j, j < k → nameNew f j j = true) ∧ Hid (Below W2.heap.size W2 wr)) (fun i _ => n - (intOf i).toNat)
      case atStart => exact ⟨0, by omega, rfl, fun j hj => absurd hj (Nat.not_lt_zero _), Below.refl _ _⟩
      case round =>
        obtain ⟨k, hk, rfl, HK, HB3⟩ := hrel
        by_cases hlt : k < n
        · go_wp2
          generalize wr = W3 at HB3 ⊢
          go_loopw [7] (fun i wr => ∃ m : Nat, m ≤ k ∧ i = .int .i64 m ∧ Hid (nameNew f k m = true) ∧ Hid (Below W2.heap.size W2 wr)) (fun i _ => k - (intOf i).toNat)
          case atStart => exact ⟨0, by omega, rfl, rfl, HB3.out⟩
          case round =>
            obtain ⟨m, hm, rfl, HN, HB4⟩ := hrel
            have k2 := (HB4.out.cell (p := ⟨w.heap.size, 0, none⟩) hw2).trans k1
            have G1 := hide (G0.out.trans (HB4.out.mono G0.out.size))
            by_cases hlm : m < k
            · have d0 := ((HR.out.below G1.out (Nat.le_refl _)).2 m (by omega)).1
              have d1 := ((HR.out.below G1.out (Nat.le_refl _)).2 k hlt).1
              have hm0 : (0 : Int) ≤ m := by omega
              have hmn : (m : Int) < n := by omega
              have hk0 : (0 : Int) ≤ k := by omega
              have hkn : (k : Int) < n := by omega
              cases hq : ((f m).name.toList == (f k).name.toList) with
              | true =>
                have hnn : nameNew f k k = false := new_no hlm (by rw [nameNew, hq]; simp)
                have hfn := firstNo_at (g := fun p => nameNew f p p) hlt hnn HK.out
                have e1 : c1 = 3 ∧ c2 = (k : Int) := by
                  have := HC2.out
                  rw [if_pos (by rw [hfn]; omega), hfn] at this
                  simp only [Prod.mk.injEq] at this
                  omega
                obtain ⟨e1, e2⟩ := e1
                clear HC2 hfn hnn
                subst e1 e2
                go_wp2_with fail
                go_quiet (fail)
                have G2 := hide (below_drewN G1.out nq)
                go_wp2
                go_ret2
                exact ⟨rfl, G2.out⟩
              | false =>
                have HN1 : Hid (nameNew f k (m + 1) = true) := by show nameNew f k (m + 1) = true; rw [nameNew, HN.out, hq]; rfl
                go_wp2_with fail
                go_quiet (fail)
                have H5 := hide (below_drewN HB4.out nq)
                go_wp2
                exact ⟨⟨m + 1, by omega, by go_num, HN1.out, H5.out⟩, by simp [intOf]; omega⟩
            · have e : m = k := by omega
              subst e
              go_wp2
              exact ⟨⟨m + 1, by omega, by go_num, fun j hj => by
                by_cases e : j = m
                · subst e; exact HN.out
                · exact HK.out j (by omega), HB4.out⟩, by simp [intOf]; omega⟩
        · have e : n = k := by omega
          subst e
          have hf2 := firstNo_all (g := fun p => nameNew f p p) HK.out
          have HC3 : Hid ((if offAt 0 (listing f n) ≠ -1 then ((4 : Int), offAt 0 (listing f n)) else if deepAt f (listing f n) ≠ -1 then (5, deepAt f (listing f n)) else (0, 0)) = (c1, c2)) := by
            have := HC2.out
            rw [if_neg (by rw [hf2]; simp)] at this
            exact this
          clear HC2 hf2 HK
          have k2 := (HB3.out.cell (p := ⟨w.heap.size, 0, none⟩) hw2).trans k1
          have G1 := hide (G0.out.trans (HB3.out.mono G0.out.size))
          have HLL := hide (listing_len (ahead_of HF1.out) (n := n) (by omega))
          have hn1 : 1 ≤ n := by omega
          go_wp2_with fail
          refine (l3Order_any b off n cap f _ (ahead_of HF1.out) hn1 hn4 (HR.out.below G1.out (Nat.le_refl _)) (links_of HF1.out)).mono ?_
          rintro e w5 ⟨H, ov, rfl, hHl, hc2, hO, hc3, hB⟩
          have G5 := hide (G1.out.trans (hB.mono G1.out.size))
          obtain ⟨o, ho⟩ := listing_last (f := f) hn1
          have hlp : 0 < (listing f n).length := by rw [ho]; simp
          have HFULL := hide (fun h => listing_full (f := f) hn1 h)
          clear ho o
          obtain ⟨L, hL⟩ : ∃ L, L = listing f n := ⟨_, rfl⟩
          rw [← hL] at hO hc3 hlp HC3 HLL HFULL
          clear hL
          obtain ⟨g, oc, rfl⟩ : ∃ g c, ov = .slice (some ⟨g, 0, none⟩) L.length c := by
            rcases hO.2 with ⟨_, h2⟩ | ⟨g, c, cur, h1, _⟩
            · omega
            · exact ⟨g, c, h1⟩
          have HOC : Hid (∀ j (h : j < L.length), w5.cell? ⟨g, j, none⟩ = some (.int .i64 ((L[j]).1 : Int)) ∧ g < w5.heap.size) := by
            intro j hj
            have h1 := hO.cells (g := g) rfl j (.int .i64 ((L[j]).1 : Int)) (by rw [List.getElem?_map, List.getElem?_eq_getElem hj]; rfl)
            rw [addr_add', Nat.zero_add] at h1
            exact ⟨h1, (hO.lt g rfl).2⟩
          have hll := HLL.out
          clear hO hB k2
          go_wp2
          go_loopw [9] (fun i wr => ∃ k : Nat, k ≤ n ∧ i = .int .i64 k ∧ Hid (∀ j, j < k → ∃ h : j < L.length, (L[j]).1 = j) ∧ Hid (Below w5.heap.size w5 wr)) (fun i _ => n - (intOf i).toNat)
          case atStart => exact ⟨0, by omega, rfl, fun j hj => absurd hj (Nat.not_lt_zero _), Below.refl _ _⟩
          case round =>
            obtain ⟨k, hk, rfl, HK, HB6⟩ := hrel
            have e2 := (HB6.out.cell (p := ⟨H, 2, none⟩) hHl).trans hc2
            have e3 := (HB6.out.cell (p := ⟨H, 3, none⟩) hHl).trans hc3
            have G6 := hide (G5.out.trans (HB6.out.mono G5.out.size))
            by_cases hlt : k < n
            · by_cases hkl : k < L.length
              · obtain ⟨q1, q2⟩ := HOC.out k hkl
                have d0 := (HB6.out.cell (p := ⟨g, k, none⟩) q2).trans q1
                have hkl' : (k : Int) < (L.length : Int) := by omega
                have hno : decide ((L.length : Int) ≤ (k : Int)) = false := by simp; omega
                have hno' : decide (L.length ≤ k) = false := by simp; omega
                have hk0 : (0 : Int) ≤ k := by omega
                obtain ⟨z, hz⟩ : ∃ z, z = (L[k]).1 := ⟨_, rfl⟩
                rw [← hz] at d0
                have HZZ := hide hz
                clear q1 q2 hz
                by_cases hx : (z : Int) = (k : Int)
                · have HN : Hid (∀ j, j < k + 1 → ∃ h : j < L.length, (L[j]).1 = j) := fun j hj => by
                    by_cases e : j = k
                    · subst e
                      exact ⟨hkl, by rw [← HZZ.out]; omega⟩
                    · exact HK.out j (by omega)
                  obtain rfl : z = k := by omega
                  clear hx HZZ
                  go_wp2
                  exact ⟨⟨z + 1, by omega, by go_num, HN.out, HB6.out⟩, by simp [intOf]; omega⟩
                · have hoff : offAt 0 L = (k : Int) := by
                    have := offAt_at (L := L) (i := 0) (j := k) hkl (fun m hm => by obtain ⟨h, e⟩ := HK.out m hm; omega) (by rw [← HZZ.out]; omega)
                    simpa using this
                  have e1 : c1 = 4 ∧ c2 = (k : Int) := by
                    have := HC3.out
                    rw [if_pos (by rw [hoff]; omega), hoff] at this
                    simp only [Prod.mk.injEq] at this
                    omega
                  have hne : ((z : Int) != (k : Int)) = true := by simpa using hx
                  obtain ⟨e1, e2'⟩ := e1
                  clear HC3 hoff HZZ
                  subst e1 e2'
                  go_wp2
                  go_ret2
                  exact ⟨rfl, G6.out⟩
              · have := HFULL.out fun j hj => by obtain ⟨h, e⟩ := HK.out j (by omega); exact e
                omega
            · have e : n = k := by omega
              subst e
              have hall : ∀ j (h : j < L.length), (L[j]).1 = 0 + j := fun j hj => by obtain ⟨h, e⟩ := HK.out j (by omega); omega
              have hoff := offAt_all hall
              rw [deepTo_first hall] at e3
              have HC4 : Hid ((if deepAt f L ≠ -1 then ((5 : Int), deepAt f L) else (0, 0)) = (c1, c2)) := by
                have := HC3.out
                rw [if_neg (by rw [hoff]; simp)] at this
                exact this
              have hge := deepAt_ge f L
              generalize deepAt f L = X at e3 HC4 hge
              have HGE := hide hge
              clear HC3 hoff hall hge e2
              by_cases hx : X = -1
              · have e1 : c1 = 0 ∧ c2 = 0 := by
                  have := HC4.out
                  rw [if_neg (by rw [hx]; simp)] at this
                  simp only [Prod.mk.injEq] at this
                  omega
                obtain ⟨e1, e2'⟩ := e1
                have hd : decide (0 ≤ X) = false := by rw [hx]; rfl
                clear HC4 hx
                subst e1 e2'
                go_wp2
                go_ret2
                exact ⟨rfl, G6.out⟩
              · have e1 : c1 = 5 ∧ c2 = X := by
                  have := HC4.out
                  rw [if_pos hx] at this
                  simp only [Prod.mk.injEq] at this
                  omega
                have hge : 0 ≤ X := HGE.out.resolve_left hx
                obtain ⟨e1, e2'⟩ := e1
                clear HC4 hx HGE
                subst e1 e2'
                go_wp2_with fail
                go_quiet (fail)
                have G7 := hide (below_drewN G6.out nq)
                go_wp2
                go_ret2
                exact ⟨rfl, G7.out⟩

end Go.Proofs.YtggchgpphhhleaaDoor.Vp

/-
  The argument opened; the table out of the row's list.
-/
namespace Go.Proofs.YtggchgpphhhleaaDoor.Vp
open Go.ChangeShapes Go.WideShapes Go.ChangeAt Go.RowKit Go.Deep

theorem cells3 : Tryd.prog.cellsOf 3 = 1 := by kernel_rfl
theorem cells9 : Tryd.prog.cellsOf 9 = 1 := by kernel_rfl
theorem cells22 : Tryd.prog.cellsOf 84 = 1 := by kernel_rfl
theorem cells24 : Tryd.prog.cellsOf 86 = 1 := by kernel_rfl
theorem cells52 : Tryd.prog.cellsOf 138 = 3 := by kernel_rfl
theorem cells57 : Tryd.prog.cellsOf 143 = 5 := by kernel_rfl
theorem cells58 : Tryd.prog.cellsOf 144 = 80 := by kernel_rfl

/-- Three cells in a row. -/
theorem cells?_three {w : World} {base : Nat} {a : Addr} {cs : List Value} (h : w.cells? base a 3 = some cs) :
    ∃ v0 v1 v2, cs = [v0, v1, v2] ∧ w.cell? (a.add 0) = some v0 ∧ w.cell? (a.add 1) = some v1 ∧ w.cell? (a.add 2) = some v2 := by
  unfold World.cells? at h
  split at h
  · simp only [show List.range 3 = [0, 1, 2] from rfl, List.mapM_cons, List.mapM_nil, Option.bind_eq_bind, Option.bind_eq_some_iff, Option.pure_def, Option.some.injEq] at h
    obtain ⟨v0, h0, r1, ⟨v1, h1, r2, ⟨v2, h2, r3, rfl, rfl⟩, rfl⟩, rfl⟩ := h
    exact ⟨v0, v1, v2, rfl, h0, h1, h2⟩
  · cases h

set_option maxRecDepth 100000 in
/-- One instruction's cells. -/
theorem open_ins {H : Type} {enc : TypeId × Value → H} {w : World} {base : Nat} {spare : Nat → Bool} {held : Bool} {fuel : Nat} {cs : List Value} {x : DataW H × List MemPlace}
    (h : DataW.trod enc Tryd.prog w base spare held fuel 138 cs = some x) : ∃ i : Ins, cs = [.int .i64 i.op, .string i.s, .int .i64 i.n] ∧ i.s.size ≤ maxLen := by
  obtain ⟨y0, y1, y2, n, _, hl, h0, h1, h2⟩ := trod_struct3 Tryd.underlying138 h
  rw [cells52] at hl
  match cs, hl with
  | [a, b, c], _ =>
    simp only [cells3, cells9] at h0 h1 h2
    obtain ⟨op, e0, _, _⟩ := DataW.trod_int Tryd.underlying3 h0
    obtain ⟨s, e1, _, hs⟩ := DataW.trod_string Tryd.underlying9 h1
    obtain ⟨n, e2, _, _⟩ := DataW.trod_int Tryd.underlying3 h2
    simp at e0 e1 e2
    exact ⟨⟨op, s, n⟩, by rw [e0, e1, e2], hs⟩

set_option maxRecDepth 100000 in
theorem open_program {H : Type} {enc : TypeId × Value → H} {W : World} {base : Nat} {v : Value} {d : DataW H} {p : List MemPlace} (hv : Value.okWide Tryd.prog W .any base 86 v)
    (h : DataW.Trod enc Tryd.prog W 0 (fun _ => true) true 86 v d p) :
    ∃ a n cap, ∃ f : Nat → Ins, v = .agg #[.slice a n cap] ∧ (n : Int) ≤ 9223372036854775807 ∧ SlIns W a n f ∧ ∀ i, i < n → (f i).s.size ≤ maxLen := by
  obtain ⟨cs, rfl, hsz⟩ := okWide_struct Tryd.underlying86 hv
  rw [cells24] at hsz
  obtain ⟨⟨c⟩⟩ := cs
  · simp at hsz
  rename_i c rest
  obtain rfl : rest = [] := by simpa using hsz
  obtain ⟨fuel, hf⟩ := h
  obtain ⟨y0, n, hx, _, h0⟩ := trod_struct1 Tryd.underlying86 hf
  simp only [Value.cells, cells22] at h0
  rcases open_slice Tryd.underlying84 h0 with ⟨hc, _⟩ | ⟨a, len, cap, m, k, D, Pl, hc, hb, hl, hm, hmm, _, hel⟩
  · simp at hc
    subst hc
    exact ⟨none, 0, 0, fun _ => ⟨0, ⟨#[]⟩, 0⟩, rfl, by omega, .inl rfl, fun i hi => absurd hi (Nat.not_lt_zero _)⟩
  · simp at hc
    subst hc
    have hmm' : m = cap := by simpa using hmm
    subst hmm'
    have hlen : (len : Int) ≤ 9223372036854775807 := by unfold maxLen at hm; omega
    have each : ∀ i, i < len → ∃ x : Ins, (W.cell? (a.add (i * 3)) = some (.int .i64 x.op) ∧ W.cell? (a.add (i * 3 + 1)) = some (.string x.s) ∧ W.cell? (a.add (i * 3 + 2)) = some (.int .i64 x.n)) ∧ x.s.size ≤ maxLen := by
      intro i hi
      obtain ⟨cs', h1, h2⟩ := hel i (by omega)
      rw [cells52] at h1
      obtain ⟨v0, v1, v2, rfl, g0, g1, g2⟩ := cells?_three h1
      obtain ⟨x, ex, hs⟩ := open_ins h2
      simp only [List.cons.injEq, and_true] at ex
      obtain ⟨rfl, rfl, rfl⟩ := ex
      rw [add_add] at g0 g1 g2
      exact ⟨x, ⟨g0, g1, g2⟩, hs⟩
    by_cases hz : len = 0
    · subst hz
      exact ⟨_, 0, m, fun _ => ⟨0, ⟨#[]⟩, 0⟩, rfl, by omega, .inl rfl, fun i hi => absurd hi (Nat.not_lt_zero _)⟩
    · have : Inhabited Ins := ⟨⟨0, ⟨#[]⟩, 0⟩⟩
      obtain ⟨f, hf⟩ := choose_lt each
      obtain ⟨b, off, spot⟩ := a
      have hspot : spot = none := by simpa [Addr.add] using World.cell?_spot (hf 0 (by omega)).1.1
      subst hspot
      have hrow : ∀ i, i < len → AtIns W b off i (f i) := fun i hi => by
        obtain ⟨⟨g0, g1, g2⟩, _⟩ := hf i hi
        rw [add_plain] at g0 g1 g2
        exact ⟨g0, g1, g2⟩
      refine ⟨_, len, m, f, rfl, hlen, .inr ⟨b, off, rfl, ?_, hrow⟩, fun i hi => (hf i hi).2⟩
      have hc0 := (hrow 0 (by omega)).1
      rcases Nat.lt_or_ge b W.heap.size with h' | h'
      · exact h'
      · simp [World.cell?, Array.getElem?_eq_none h'] at hc0

end Go.Proofs.YtggchgpphhhleaaDoor.Vp

/-
  Accounts opened. Written by tools/caopen.py.
-/
namespace Go.Proofs.YtggchgpphhhleaaDoor.Vp
open Go.ChangeShapes Go.WideShapes Go.ChangeAt Go.RowKit Go.Deep Go.Joins

theorem cells4 : Tryd.prog.cellsOf 4 = 1 := by kernel_rfl
theorem cellsLink : Tryd.prog.cellsOf 125 = 4 := by kernel_rfl
theorem cellsDeed : Tryd.prog.cellsOf 89 = 6 := by kernel_rfl
theorem cellsLinks : Tryd.prog.cellsOf 87 = 1 := by kernel_rfl
theorem cellsDeeds : Tryd.prog.cellsOf 22 = 1 := by kernel_rfl
theorem cellsAccount : Tryd.prog.cellsOf 24 = 1 := by kernel_rfl

/-- Four cells in a row. -/
theorem cells?_four {w : World} {base : Nat} {a : Addr} {cs : List Value} (h : w.cells? base a 4 = some cs) :
    ∃ v0 v1 v2 v3, cs = [v0, v1, v2, v3] ∧ w.cell? (a.add 0) = some v0 ∧ w.cell? (a.add 1) = some v1 ∧ w.cell? (a.add 2) = some v2 ∧ w.cell? (a.add 3) = some v3 := by
  unfold World.cells? at h
  split at h
  · simp only [show List.range 4 = [0, 1, 2, 3] from rfl, List.mapM_cons, List.mapM_nil, Option.bind_eq_bind, Option.bind_eq_some_iff, Option.pure_def, Option.some.injEq] at h
    obtain ⟨v0, h0, r1, ⟨v1, h1, r2, ⟨v2, h2, r3, ⟨v3, h3, r4, rfl, rfl⟩, rfl⟩, rfl⟩, rfl⟩ := h
    exact ⟨v0, v1, v2, v3, rfl, h0, h1, h2, h3⟩
  · cases h
/-- Six cells in a row. -/
theorem cells?_six {w : World} {base : Nat} {a : Addr} {cs : List Value} (h : w.cells? base a 6 = some cs) :
    ∃ v0 v1 v2 v3 v4 v5, cs = [v0, v1, v2, v3, v4, v5] ∧ w.cell? (a.add 0) = some v0 ∧ w.cell? (a.add 1) = some v1 ∧ w.cell? (a.add 2) = some v2 ∧ w.cell? (a.add 3) = some v3 ∧ w.cell? (a.add 4) = some v4 ∧ w.cell? (a.add 5) = some v5 := by
  unfold World.cells? at h
  split at h
  · simp only [show List.range 6 = [0, 1, 2, 3, 4, 5] from rfl, List.mapM_cons, List.mapM_nil, Option.bind_eq_bind, Option.bind_eq_some_iff, Option.pure_def, Option.some.injEq] at h
    obtain ⟨v0, h0, r1, ⟨v1, h1, r2, ⟨v2, h2, r3, ⟨v3, h3, r4, ⟨v4, h4, r5, ⟨v5, h5, r6, rfl, rfl⟩, rfl⟩, rfl⟩, rfl⟩, rfl⟩, rfl⟩ := h
    exact ⟨v0, v1, v2, v3, v4, v5, rfl, h0, h1, h2, h3, h4, h5⟩
  · cases h
theorem trod_struct6 {H : Type} {enc : TypeId × Value → H} {P : Program} {w : World} {base : Nat} {spare : Nat → Bool} {held : Bool} {t : TypeId} {f0 f1 f2 f3 f4 f5 : Field} {fuel : Nat} {cs : List Value} {x : DataW H × List MemPlace} (ht : P.underlying t = some (.struct #[f0, f1, f2, f3, f4, f5])) (h : DataW.trod enc P w base spare held fuel t cs = some x) :
    ∃ y0 y1 y2 y3 y4 y5 n, cs.length = P.cellsOf t ∧ DataW.trod enc P w base spare held n f0.type ((cs.drop f0.offset).take (P.cellsOf f0.type)) = some y0 ∧ DataW.trod enc P w base spare held n f1.type ((cs.drop f1.offset).take (P.cellsOf f1.type)) = some y1 ∧ DataW.trod enc P w base spare held n f2.type ((cs.drop f2.offset).take (P.cellsOf f2.type)) = some y2 ∧ DataW.trod enc P w base spare held n f3.type ((cs.drop f3.offset).take (P.cellsOf f3.type)) = some y3 ∧ DataW.trod enc P w base spare held n f4.type ((cs.drop f4.offset).take (P.cellsOf f4.type)) = some y4 ∧ DataW.trod enc P w base spare held n f5.type ((cs.drop f5.offset).take (P.cellsOf f5.type)) = some y5 := by
  obtain ⟨xs, n, _, rfl, hl, hlen, hf⟩ := DataW.trod_struct ht h
  match xs, hlen with
  | [y0, y1, y2, y3, y4, y5], _ => exact ⟨y0, y1, y2, y3, y4, y5, n, hl, by simpa using hf 0 f0 rfl, by simpa using hf 1 f1 rfl, by simpa using hf 2 f2 rfl, by simpa using hf 3 f3 rfl, by simpa using hf 4 f4 rfl, by simpa using hf 5 f5 rfl⟩


set_option maxRecDepth 100000 in
theorem open_insRow {H : Type} {enc : TypeId × Value → H} {W : World} {held : Bool} {fuel : Nat} {c : Value} {x : DataW H × List MemPlace} (h : DataW.trod enc Tryd.prog W 0 (fun _ => true) held fuel 84 [c] = some x) :
    ∃ a n cap, ∃ f : Nat → Ins, c = .slice a n cap ∧ (n : Int) ≤ 9223372036854775807 ∧ SlIns W a n f ∧ ∀ i, i < n → (f i).s.size ≤ maxLen := by
  rcases open_slice Tryd.underlying84 h with ⟨hc, _⟩ | ⟨a, len, cap, m, k, D, Pl, hc, hb, hl, hm, hmm, _, hel⟩
  · simp at hc
    subst hc
    exact ⟨none, 0, 0, fun _ => ⟨0, ⟨#[]⟩, 0⟩, rfl, by omega, .inl rfl, fun i hi => absurd hi (Nat.not_lt_zero _)⟩
  · simp at hc
    subst hc
    have hmm' : m = cap := by simpa using hmm
    subst hmm'
    have hlen : (len : Int) ≤ 9223372036854775807 := by unfold maxLen at hm; omega
    have each : ∀ i, i < len → ∃ x : Ins, (W.cell? (a.add (i * 3)) = some (.int .i64 x.op) ∧ W.cell? (a.add (i * 3 + 1)) = some (.string x.s) ∧ W.cell? (a.add (i * 3 + 2)) = some (.int .i64 x.n)) ∧ x.s.size ≤ maxLen := by
      intro i hi
      obtain ⟨cs', h1, h2⟩ := hel i (by omega)
      rw [cells52] at h1
      obtain ⟨v0, v1, v2, rfl, g0, g1, g2⟩ := cells?_three h1
      obtain ⟨x, ex, hs⟩ := open_ins h2
      simp only [List.cons.injEq, and_true] at ex
      obtain ⟨rfl, rfl, rfl⟩ := ex
      rw [add_add] at g0 g1 g2
      exact ⟨x, ⟨g0, g1, g2⟩, hs⟩
    by_cases hz : len = 0
    · subst hz
      exact ⟨_, 0, m, fun _ => ⟨0, ⟨#[]⟩, 0⟩, rfl, by omega, .inl rfl, fun i hi => absurd hi (Nat.not_lt_zero _)⟩
    · have : Inhabited Ins := ⟨⟨0, ⟨#[]⟩, 0⟩⟩
      obtain ⟨f, hf⟩ := choose_lt each
      obtain ⟨b, off, spot⟩ := a
      have hspot : spot = none := by simpa [Addr.add] using World.cell?_spot (hf 0 (by omega)).1.1
      subst hspot
      have hrow : ∀ i, i < len → AtIns W b off i (f i) := fun i hi => by
        obtain ⟨hp, _⟩ := hf i hi
        simp only [add_plain] at hp
        exact hp
      refine ⟨_, len, m, f, rfl, hlen, .inr ⟨b, off, rfl, ?_, hrow⟩, fun i hi => (hf i hi).2⟩
      have hc0 := (hrow 0 (by omega)).1
      rcases Nat.lt_or_ge b W.heap.size with h' | h'
      · exact h'
      · simp [World.cell?, Array.getElem?_eq_none h'] at hc0


set_option maxRecDepth 100000 in
theorem open_link {H : Type} {enc : TypeId × Value → H} {w : World} {base : Nat} {spare : Nat → Bool} {held : Bool} {fuel : Nat} {cs : List Value} {x : DataW H × List MemPlace}
    (h : DataW.trod enc Tryd.prog w base spare held fuel 125 cs = some x) : ∃ i : Link, cs = [.string i.name, .bool i.ask, .bool i.has, .int .i64 i.at_] ∧ i.name.size ≤ maxLen := by
  obtain ⟨y0, y1, y2, y3, n, _, hl, h0, h1, h2, h3⟩ := trod_struct4 Tryd.underlying125 h
  rw [cellsLink] at hl
  match cs, hl with
  | [a, b, c, d], _ =>
    simp only [cells3, cells4, cells9] at h0 h1 h2 h3
    obtain ⟨s, e0, _, hs⟩ := DataW.trod_string Tryd.underlying9 h0
    obtain ⟨k, e1, _⟩ := DataW.trod_bool Tryd.underlying4 h1
    obtain ⟨l, e2, _⟩ := DataW.trod_bool Tryd.underlying4 h2
    obtain ⟨m, e3, _, _⟩ := DataW.trod_int Tryd.underlying3 h3
    simp at e0 e1 e2 e3
    exact ⟨⟨s, k, l, m⟩, by rw [e0, e1, e2, e3], hs⟩

set_option maxRecDepth 100000 in
theorem open_links {H : Type} {enc : TypeId × Value → H} {W : World} {held : Bool} {fuel : Nat} {c : Value} {x : DataW H × List MemPlace} (h : DataW.trod enc Tryd.prog W 0 (fun _ => true) held fuel 87 [c] = some x) :
    ∃ a n cap, ∃ f : Nat → Link, c = .slice a n cap ∧ (n : Int) ≤ 9223372036854775807 ∧ SlLink W a n f ∧ ∀ i, i < n → (f i).name.size ≤ maxLen := by
  rcases open_slice Tryd.underlying87 h with ⟨hc, _⟩ | ⟨a, len, cap, m, k, D, Pl, hc, hb, hl, hm, hmm, _, hel⟩
  · simp at hc
    subst hc
    exact ⟨none, 0, 0, fun _ => ⟨⟨#[]⟩, false, false, 0⟩, rfl, by omega, .inl rfl, fun i hi => absurd hi (Nat.not_lt_zero _)⟩
  · simp at hc
    subst hc
    have hmm' : m = cap := by simpa using hmm
    subst hmm'
    have hlen : (len : Int) ≤ 9223372036854775807 := by unfold maxLen at hm; omega
    have each : ∀ i, i < len → ∃ x : Link, (W.cell? (a.add (i * 4)) = some (.string x.name) ∧ W.cell? (a.add (i * 4 + 1)) = some (.bool x.ask) ∧ W.cell? (a.add (i * 4 + 2)) = some (.bool x.has) ∧ W.cell? (a.add (i * 4 + 3)) = some (.int .i64 x.at_)) ∧ x.name.size ≤ maxLen := by
      intro i hi
      obtain ⟨cs', h1, h2⟩ := hel i (by omega)
      rw [cellsLink] at h1
      obtain ⟨v0, v1, v2, v3, rfl, g0, g1, g2, g3⟩ := cells?_four h1
      obtain ⟨x, ex, hs⟩ := open_link h2
      simp only [List.cons.injEq, and_true] at ex
      obtain ⟨rfl, rfl, rfl, rfl⟩ := ex
      rw [add_add] at g0 g1 g2 g3
      exact ⟨x, ⟨g0, g1, g2, g3⟩, hs⟩
    by_cases hz : len = 0
    · subst hz
      exact ⟨_, 0, m, fun _ => ⟨⟨#[]⟩, false, false, 0⟩, rfl, by omega, .inl rfl, fun i hi => absurd hi (Nat.not_lt_zero _)⟩
    · have : Inhabited Link := ⟨⟨⟨#[]⟩, false, false, 0⟩⟩
      obtain ⟨f, hf⟩ := choose_lt each
      obtain ⟨b, off, spot⟩ := a
      have hspot : spot = none := by simpa [Addr.add] using World.cell?_spot (hf 0 (by omega)).1.1
      subst hspot
      have hrow : ∀ i, i < len → AtLink W b off i (f i) := fun i hi => by
        obtain ⟨hp, _⟩ := hf i hi
        simp only [add_plain] at hp
        exact hp
      refine ⟨_, len, m, f, rfl, hlen, .inr ⟨b, off, rfl, ?_, hrow⟩, fun i hi => (hf i hi).2⟩
      have hc0 := (hrow 0 (by omega)).1
      rcases Nat.lt_or_ge b W.heap.size with h' | h'
      · exact h'
      · simp [World.cell?, Array.getElem?_eq_none h'] at hc0


set_option maxRecDepth 100000 in
theorem open_deed {H : Type} {enc : TypeId × Value → H} {W : World} {held : Bool} {fuel : Nat} {cs : List Value} {x : DataW H × List MemPlace}
    (h : DataW.trod enc Tryd.prog W 0 (fun _ => true) held fuel 89 cs = some x) : ∃ (i : Deed) (a0 : Option Addr) (cap0 : Nat) (a1 : Option Addr) (cap1 : Nat), cs = [.string i.name, .int .i64 i.kind, .int .i64 i.code, .string i.text, .slice a0 i.actN cap0, .slice a1 i.linksN cap1] ∧ SlIns W a0 i.actN i.act ∧ SlLink W a1 i.linksN i.links ∧ SizedDeed i := by
  obtain ⟨y0, y1, y2, y3, y4, y5, n, hl, h0, h1, h2, h3, h4, h5⟩ := trod_struct6 Tryd.underlying89 h
  rw [cellsDeed] at hl
  match cs, hl with
  | [c0, c1, c2, c3, c4, c5], _ =>
    simp only [cells3, cells9, cells24, cellsLinks] at h0 h1 h2 h3 h4 h5
    obtain ⟨s, e0, _, hs⟩ := DataW.trod_string Tryd.underlying9 h0
    obtain ⟨k, e1, _, _⟩ := DataW.trod_int Tryd.underlying3 h1
    obtain ⟨c, e2, _, _⟩ := DataW.trod_int Tryd.underlying3 h2
    obtain ⟨t, e3, _, ht⟩ := DataW.trod_string Tryd.underlying9 h3
    obtain ⟨z0, n2, _, _, h6⟩ := trod_struct1 Tryd.underlying86 h4
    simp only [cells22] at h6
    simp at e0 e1 e2 e3 h6 h5
    obtain ⟨a, m, cap, f, rfl, hm, hS, hz⟩ := open_insRow h6
    obtain ⟨a1, m1, cap1, f1, rfl, hm1, hS1, hz1⟩ := open_links h5
    exact ⟨⟨s, k, c, t, m, f, m1, f1⟩, a, cap, a1, cap1, by rw [e0, e1, e2, e3], hS, hS1, hs, ht, ⟨hm, hz⟩, hm1, hz1⟩

set_option maxRecDepth 100000 in
theorem open_deeds {H : Type} {enc : TypeId × Value → H} {W : World} {held : Bool} {fuel : Nat} {c : Value} {x : DataW H × List MemPlace} (h : DataW.trod enc Tryd.prog W 0 (fun _ => true) held fuel 22 [c] = some x) :
    ∃ a n cap, ∃ f : Nat → Deed, c = .slice a n cap ∧ (n : Int) ≤ 9223372036854775807 ∧ SlDeed W a n f ∧ ∀ i, i < n → SizedDeed (f i) := by
  rcases open_slice Tryd.underlying22 h with ⟨hc, _⟩ | ⟨a, len, cap, m, k, D, Pl, hc, hb, hl, hm, hmm, _, hel⟩
  · simp at hc
    subst hc
    exact ⟨none, 0, 0, fun _ => ⟨⟨#[]⟩, 0, 0, ⟨#[]⟩, 0, fun _ => ⟨0, ⟨#[]⟩, 0⟩, 0, fun _ => ⟨⟨#[]⟩, false, false, 0⟩⟩, rfl, by omega, .inl rfl, fun i hi => absurd hi (Nat.not_lt_zero _)⟩
  · simp at hc
    subst hc
    have hmm' : m = cap := by simpa using hmm
    subst hmm'
    have hlen : (len : Int) ≤ 9223372036854775807 := by unfold maxLen at hm; omega
    have each : ∀ i, i < len → ∃ x : Deed, (W.cell? (a.add (i * 6)) = some (.string x.name) ∧ W.cell? (a.add (i * 6 + 1)) = some (.int .i64 x.kind) ∧ W.cell? (a.add (i * 6 + 2)) = some (.int .i64 x.code) ∧ W.cell? (a.add (i * 6 + 3)) = some (.string x.text) ∧ (∃ (a2 : Option Addr) (cap2 : Nat), W.cell? (a.add (i * 6 + 4)) = some (.slice a2 x.actN cap2) ∧ SlIns W a2 x.actN x.act) ∧ ∃ (a3 : Option Addr) (cap3 : Nat), W.cell? (a.add (i * 6 + 5)) = some (.slice a3 x.linksN cap3) ∧ SlLink W a3 x.linksN x.links) ∧ SizedDeed x := by
      intro i hi
      obtain ⟨cs', h1, h2⟩ := hel i (by omega)
      rw [cellsDeed] at h1
      obtain ⟨v0, v1, v2, v3, v4, v5, rfl, g0, g1, g2, g3, g4, g5⟩ := cells?_six h1
      obtain ⟨x, a2, cap2, a3, cap3, ex, hS, hS1, hs⟩ := open_deed h2
      simp only [List.cons.injEq, and_true] at ex
      obtain ⟨rfl, rfl, rfl, rfl, rfl, rfl⟩ := ex
      rw [add_add] at g0 g1 g2 g3 g4 g5
      exact ⟨x, ⟨g0, g1, g2, g3, ⟨a2, cap2, g4, hS⟩, a3, cap3, g5, hS1⟩, hs⟩
    by_cases hz : len = 0
    · subst hz
      exact ⟨_, 0, m, fun _ => ⟨⟨#[]⟩, 0, 0, ⟨#[]⟩, 0, fun _ => ⟨0, ⟨#[]⟩, 0⟩, 0, fun _ => ⟨⟨#[]⟩, false, false, 0⟩⟩, rfl, by omega, .inl rfl, fun i hi => absurd hi (Nat.not_lt_zero _)⟩
    · have : Inhabited Deed := ⟨⟨⟨#[]⟩, 0, 0, ⟨#[]⟩, 0, fun _ => ⟨0, ⟨#[]⟩, 0⟩, 0, fun _ => ⟨⟨#[]⟩, false, false, 0⟩⟩⟩
      obtain ⟨f, hf⟩ := choose_lt each
      obtain ⟨b, off, spot⟩ := a
      have hspot : spot = none := by simpa [Addr.add] using World.cell?_spot (hf 0 (by omega)).1.1
      subst hspot
      have hrow : ∀ i, i < len → AtDeed W b off i (f i) := fun i hi => by
        obtain ⟨hp, _⟩ := hf i hi
        simp only [add_plain] at hp
        exact hp
      refine ⟨_, len, m, f, rfl, hlen, .inr ⟨b, off, rfl, ?_, hrow⟩, fun i hi => (hf i hi).2⟩
      have hc0 := (hrow 0 (by omega)).1
      rcases Nat.lt_or_ge b W.heap.size with h' | h'
      · exact h'
      · simp [World.cell?, Array.getElem?_eq_none h'] at hc0


set_option maxRecDepth 100000 in
theorem open_account {H : Type} {enc : TypeId × Value → H} {W : World} {base : Nat} {v : Value} {d : DataW H} {p : List MemPlace} (hv : Value.okWide Tryd.prog W .any base 24 v)
    (h : DataW.Trod enc Tryd.prog W 0 (fun _ => true) true 24 v d p) :
    ∃ a n cap, ∃ f : Nat → Deed, v = .agg #[.slice a n cap] ∧ (n : Int) ≤ 9223372036854775807 ∧ SlDeed W a n f ∧ ∀ i, i < n → SizedDeed (f i) := by
  obtain ⟨cs, rfl, hsz⟩ := okWide_struct Tryd.underlying24 hv
  rw [cellsAccount] at hsz
  obtain ⟨l⟩ := cs
  match l, hsz with
  | [c0], _ =>
    obtain ⟨fuel, hf⟩ := h
    obtain ⟨y0, n, _, _, h0⟩ := trod_struct1 Tryd.underlying24 hf
    simp only [Value.cells, cellsDeeds] at h0
    simp at h0
    obtain ⟨a0, n0, k0, f0, rfl, e0, s0, z0⟩ := open_deeds h0
    exact ⟨a0, n0, k0, f0, rfl, e0, s0, z0⟩

end Go.Proofs.YtggchgpphhhleaaDoor.Vp

/-
  What Names, Sources answer, as lists.
-/
namespace Go.Proofs.YtggchgpphhhleaaDoor.Vp
open Go.RowKit Go.Sort

/-- the account is valid. -/
def accOk (f : Nat → Deed) (n : Nat) : Bool := decide ((accC f n).1 = 0)
theorem accOk_n {f : Nat → Deed} {n : Nat} (h : accOk f n = true) : 1 ≤ n ∧ n ≤ 400 ∧ firstNo (deedOk f) n = -1 := by
  have h1 : (accC f n).1 = 0 := of_decide_eq_true h
  unfold accC at h1
  split at h1
  · simp at h1
  · rename_i h2
    refine ⟨by omega, by omega, ?_⟩
    split at h1
    · simp at h1
    · rename_i h3
      exact Classical.byContradiction fun hc => h3 hc
theorem accOk_links {f : Nat → Deed} {n : Nat} (h : accOk f n = true) : ∀ p, p < n → (f p).linksN ≤ 200 := by
  intro p hp
  have h1 := firstNo_ok (accOk_n h).2.2 p hp
  simp only [deedOk, Bool.and_eq_true, kindOk] at h1
  obtain ⟨_, h2⟩ := h1
  split at h2
  · simp [unmadeOk] at h2
    omega
  · split at h2
    · simp [unmadeOk] at h2
      omega
    · split at h2
      · simp [targetOk] at h2
        omega
      · simp at h2

/-- the sources among the first k deeds. -/
def srcL (f : Nat → Deed) : Nat → List (List UInt8)
  | 0 => []
  | k + 1 => if (f k).kind = 1 then lput (srcL f k) (f k).name.toList else srcL f k
theorem srcL_asc (f : Nat → Deed) (k : Nat) : (srcL f k).Pairwise (· < ·) := by
  induction k with
  | zero => exact List.Pairwise.nil
  | succ k ih =>
    rw [srcL]
    split
    · exact asc_lput ih _
    · exact ih
theorem srcL_len (f : Nat → Deed) (k : Nat) : (srcL f k).length ≤ k := by
  induction k with
  | zero => exact Nat.le_refl _
  | succ k ih =>
    rw [srcL]
    split
    · have := lput_len (srcL f k) (f k).name.toList
      omega
    · omega

/-- the names of a deed's links among the first j, put into a list. -/
def lnkL (acc : List (List UInt8)) (g : Nat → Link) : Nat → List (List UInt8)
  | 0 => acc
  | j + 1 => lput (lnkL acc g j) (g j).name.toList
theorem lnkL_asc {acc : List (List UInt8)} (h : acc.Pairwise (· < ·)) (g : Nat → Link) (j : Nat) : (lnkL acc g j).Pairwise (· < ·) := by
  induction j with
  | zero => exact h
  | succ j ih => exact asc_lput ih _
theorem lnkL_len (acc : List (List UInt8)) (g : Nat → Link) (j : Nat) : (lnkL acc g j).length ≤ acc.length + j := by
  induction j with
  | zero => exact Nat.le_refl _
  | succ j ih =>
    have := lput_len (lnkL acc g j) (g j).name.toList
    rw [lnkL]
    omega
/-- the names of the first k deeds. -/
def nameL (f : Nat → Deed) : Nat → List (List UInt8)
  | 0 => []
  | k + 1 => lnkL (lput (nameL f k) (f k).name.toList) (f k).links (f k).linksN
theorem nameL_asc (f : Nat → Deed) (k : Nat) : (nameL f k).Pairwise (· < ·) := by
  induction k with
  | zero => exact List.Pairwise.nil
  | succ k ih => exact lnkL_asc (asc_lput ih _) _ _
theorem nameL_len {f : Nat → Deed} {k : Nat} (h : ∀ p, p < k → (f p).linksN ≤ 200) : (nameL f k).length ≤ k * 201 := by
  induction k with
  | zero => exact Nat.le_refl _
  | succ k ih =>
    have h1 := ih fun p hp => h p (by omega)
    have h2 := lnkL_len (lput (nameL f k) (f k).name.toList) (f k).links (f k).linksN
    have h3 := lput_len (nameL f k) (f k).name.toList
    have h4 := h k (by omega)
    rw [nameL]
    omega

def srcs (f : Nat → Deed) (n : Nat) : List (List UInt8) := if accOk f n = true then srcL f n else []
def nams (f : Nat → Deed) (n : Nat) : List (List UInt8) := if accOk f n = true then nameL f n else []
theorem srcs_len (f : Nat → Deed) (n : Nat) : (srcs f n).length ≤ 1048576 := by
  unfold srcs
  split
  · rename_i h
    have h1 := accOk_n h
    have h2 := srcL_len f n
    omega
  · simp
theorem nams_len (f : Nat → Deed) (n : Nat) : (nams f n).length ≤ 1048576 := by
  unfold nams
  split
  · rename_i h
    have h1 := accOk_n h
    have h2 := nameL_len (f := f) (k := n) (accOk_links h)
    omega
  · simp

end Go.Proofs.YtggchgpphhhleaaDoor.Vp
