/-
  slices.BinarySearch over ascending texts.
-/
import Derived.Test.YtolpgafkojlkoaaDoorCsNames
import Derived.Sort.Walk0
namespace Go.Proofs.YtolpgafkojlkoaaDoor.Vp
open Go.RowKit Go.Sort

abbrev tless (a b : ByteArray) : Bool := Op.bytesLess a.toList b.toList
theorem tless_trans {a b c : ByteArray} (h1 : tless a b = true) (h2 : tless b c = true) : tless a c = true := by
  simp only [tless, bytesLess_eq, decide_eq_true_eq] at *
  exact List.lt_trans h1 h2
theorem tless_irrefl (a : ByteArray) : tless a a = false := by
  simp only [tless, bytesLess_eq, decide_eq_false_iff_not]
  exact List.lt_irrefl _
theorem asc_lt {g : Nat → ByteArray} {n : Nat} (h : ascTo g n = true) {i j : Nat} (hij : i < j) (hj : j < n) : tless (g i) (g j) = true := by
  induction j with
  | zero => omega
  | succ m ih =>
    have h2 := ascTo_mono (show m + 2 ≤ n by omega) h
    simp only [ascTo, Bool.and_eq_true] at h2
    by_cases e : i = m
    · subst e; exact h2.2
    · exact tless_trans (ih (by omega) (by omega)) h2.2
/-- A text is one of the first n. -/
def isIn (g : Nat → ByteArray) (n : Nat) (t : ByteArray) : Bool := (List.range n).any fun i => (g i).toList == t.toList
theorem isIn_at {g : Nat → ByteArray} {n i : Nat} {t : ByteArray} (hs : ascTo g n = true) (hi : i ≤ n) (h1 : ∀ m, m < i → tless (g m) t = true) (h2 : ∀ m, i ≤ m → m < n → tless (g m) t = false) : isIn g n t = (decide (i < n) && ((g i).toList == t.toList)) := by
  by_cases hlt : i < n
  · simp only [hlt, decide_true, Bool.true_and]
    cases e : (g i).toList == t.toList with
    | true =>
      simp only [isIn, List.any_eq_true, List.mem_range]
      exact ⟨i, hlt, e⟩
    | false =>
      simp only [isIn, List.any_eq_false, List.mem_range]
      intro m hm hq
      have hq' : (g m).toList = t.toList := by simpa using hq
      rcases Nat.lt_trichotomy m i with c | c | c
      · have := h1 m c
        simp only [tless, hq'] at this
        have h3 := tless_irrefl t
        simp only [tless] at h3
        rw [h3] at this
        cases this
      · subst c
        rw [hq] at e
        cases e
      · have h3 := asc_lt hs c hm
        simp only [tless, hq'] at h3
        have h4 := h2 i (Nat.le_refl _) hlt
        simp only [tless] at h4
        rw [h3] at h4
        cases h4
  · have e : i = n := by omega
    subst e
    simp only [Nat.lt_irrefl, decide_false, Bool.false_and]
    simp only [isIn, List.any_eq_false, List.mem_range]
    intro m hm hq
    have hq' : (g m).toList = t.toList := by simpa using hq
    have := h1 m hm
    simp only [tless, hq'] at this
    have h3 := tless_irrefl t
    simp only [tless] at h3
    rw [h3] at this
    cases this

set_option maxHeartbeats 1000000 in
theorem cNaN (x : ByteArray) (w : World) : Calls Tryd.prog 100 #[.string x] w fun e w' => e = .returned (.bool false) ∧ w' = w := by
  go_enter Tryd.func100, Tryd.ntmps100
  go_wp2
  go_ret
  exact ⟨by simp, rfl⟩
set_option maxHeartbeats 1000000 in
theorem sNaN (x : ByteArray) (w : World) : Calls Tryd.prog 92 #[.string x] w fun e w' => e = .returned (.bool false) ∧ w' = w := by
  go_enter Tryd.func92, Tryd.ntmps92
  go_wp2
  go_ret
  exact ⟨by simp, rfl⟩
set_option maxHeartbeats 1000000 in
theorem cLess (x y : ByteArray) (w : World) : Calls Tryd.prog 91 #[.string x, .string y] w fun e w' => e = .returned (.bool (tless x y)) ∧ w' = w := by
  go_enter Tryd.func91, Tryd.ntmps91
  go_wp2_with (go_at_call 100; refine (cNaN _ _).mono ?_; rintro e w1 ⟨rfl, rfl⟩)
  all_goals
    go_ret
    exact ⟨by simp, rfl⟩

set_option maxHeartbeats 2000000 in
theorem search_row (b off n cap : Nat) (g : Nat → ByteArray) (t : ByteArray) (w : World) (hn : (n : Int) ≤ 1048576) (hr : RowStr w b off n g) (hs : ascTo g n = true) :
    Calls Tryd.prog 77 #[.slice (some ⟨b, off, none⟩) n cap, .string t] w fun e w' => ∃ i : Int, e = .returned (.tuple #[.int .i64 i, .bool (isIn g n t)]) ∧ w' = w := by
  have HR := hide hr
  have HS := hide hs
  clear hr hs
  obtain ⟨I, hI2⟩ : ∃ I, I = isIn g n t := ⟨_, rfl⟩
  rw [← hI2]
  have HI2 := hide hI2
  clear hI2
  go_enter Tryd.func77, Tryd.ntmps77
  go_wp2
  go_loop [7, 8] (fun i j => ∃ p q : Nat, p ≤ q ∧ q ≤ n ∧ i = .int .i64 p ∧ j = .int .i64 q ∧ Hid (∀ m, m < p → tless (g m) t = true) ∧ Hid (∀ m, q ≤ m → m < n → tless (g m) t = false)) (fun i j => (intOf j).toNat - (intOf i).toNat)
  case atStart => exact ⟨0, n, by omega, by omega, rfl, rfl, fun m hm => absurd hm (Nat.not_lt_zero _), fun m h1 h2 => by omega⟩
  case round =>
    obtain ⟨p, q, hpq, hq, rfl, rfl, H1, H2⟩ := hrel
    by_cases hlt : p < q
    · obtain ⟨m, hm⟩ : ∃ m : Nat, m = (p + q) / 2 := ⟨_, rfl⟩
      have hm1 : p ≤ m := by omega
      have hm2 : m < q := by omega
      have c0 := HR.2 m (by omega)
      have hsh : ((p : Int) + q) / 2 = m := by omega
      clear hm
      cases hb : tless (g m) t with
      | true =>
        have HB := hide hb
        clear hb
        go_wp2_with (go_at_call 91; refine (cLess _ _ _).mono ?_; rintro e w1 ⟨rfl, rfl⟩; rw [HB.out])
        refine ⟨⟨m + 1, q, by omega, hq, by go_num, rfl, fun x hx => ?_, H2⟩, by simp [intOf]; omega⟩
        by_cases e : x = m
        · subst e; exact HB
        · exact tless_trans (asc_lt HS (show x < m by omega) (by omega)) HB
      | false =>
        have HB := hide hb
        clear hb
        go_wp2_with (go_at_call 91; refine (cLess _ _ _).mono ?_; rintro e w1 ⟨rfl, rfl⟩; rw [HB.out])
        refine ⟨⟨p, m, hm1, by omega, rfl, rfl, H1, fun x h1 h2 => ?_⟩, by simp [intOf]; omega⟩
        by_cases e : x = m
        · subst e; exact HB
        · cases hx : tless (g x) t with
          | false => rfl
          | true =>
            have := tless_trans (asc_lt HS (show m < x by omega) h2) hx
            rw [HB.out] at this
            cases this
    · have e : p = q := by omega
      subst e
      have HI := hide (HI2.trans (isIn_at HS hq H1 H2))
      by_cases hlt2 : p < n
      · have c0 := HR.2 p hlt2
        cases hb : ((g p).toList == t.toList) with
        | true =>
          have hI3 : I = true := by rw [HI.out, hb]; simp [hlt2]
          subst hI3
          go_wp2
          refine bodyPost_ret (v := .tuple #[.int .i64 p, .bool true]) (by simp [results, Tryd.results77, go_sem]) rfl (by first | exact ⟨⟨_, rfl⟩, rfl⟩ | exact ⟨_, rfl, rfl⟩)
        | false =>
          have hI3 : I = false := by rw [HI.out, hb]; simp
          subst hI3
          go_wp2_with (go_at_call 92; refine (sNaN _ _).mono ?_; rintro e w1 ⟨rfl, rfl⟩)
          all_goals
            refine bodyPost_ret (v := .tuple #[.int .i64 p, .bool false]) (by simp [results, Tryd.results77, go_sem]) rfl (by first | exact ⟨⟨_, rfl⟩, rfl⟩ | exact ⟨_, rfl, rfl⟩)
      · have hI3 : I = false := by rw [HI.out]; simp [hlt2]
        subst hI3
        go_wp2
        refine bodyPost_ret (v := .tuple #[.int .i64 p, .bool false]) (by simp [results, Tryd.results77, go_sem]) rfl (by first | exact ⟨⟨_, rfl⟩, rfl⟩ | exact ⟨_, rfl, rfl⟩)

set_option maxHeartbeats 1000000 in
theorem search_nil (a : Option Addr) (cap : Nat) (t : ByteArray) (w : World) :
    Calls Tryd.prog 77 #[.slice a 0 cap, .string t] w fun e w' => ∃ i : Int, e = .returned (.tuple #[.int .i64 i, .bool false]) ∧ w' = w := by
  go_enter Tryd.func77, Tryd.ntmps77
  go_wp2
  go_loop [7, 8] (fun i j => i = .int .i64 0 ∧ j = .int .i64 0) (fun _ _ => 0)
  case atStart => exact ⟨rfl, rfl⟩
  case round =>
    obtain ⟨rfl, rfl⟩ := hrel
    go_wp2
    refine bodyPost_ret (v := .tuple #[.int .i64 0, .bool false]) (by simp [results, Tryd.results77, go_sem]) rfl (by first | exact ⟨⟨_, rfl⟩, rfl⟩ | exact ⟨_, rfl, rfl⟩)

end Go.Proofs.YtolpgafkojlkoaaDoor.Vp
