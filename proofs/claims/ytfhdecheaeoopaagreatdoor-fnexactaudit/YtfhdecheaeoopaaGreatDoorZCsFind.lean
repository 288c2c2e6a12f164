/-
  Put together of: CsFind, CsMeet, CsWide.
-/
import Derived.Test.YtfhdecheaeoopaaGreatDoorZCsImpl
import Derived.Sort.Walk0
import Derived.Test.YtfhdecheaeoopaaGreatDoorZC

/-
  slices.BinarySearch over ascending texts.
-/
namespace Go.Proofs.YtfhdecheaeoopaaGreatDoor.Vp
open Go.RowKit Go.Sort

abbrev tless (a b : ByteArray) : Bool := Op.bytesLess a.toList b.toList
theorem tless_trans {a b c : ByteArray} (h1 : tless a b = true) (h2 : tless b c = true) : tless a c = true := by
  simp only [tless, bytesLess_eq, decide_eq_true_eq] at *
  exact List.lt_trans h1 h2
theorem tless_irrefl (a : ByteArray) : tless a a = false := by
  simp only [tless, bytesLess_eq, decide_eq_false_iff_not]
  exact List.lt_irrefl _
theorem asc_lt {g : Nat → ByteArray} {n : Nat} (h : ascTo g n = true) {i j : Nat} (hij : i < j) (hj : j < n) : tless (g i) (g j) = true := by
  induction j with
  | zero => omega
  | succ m ih =>
    have h2 := ascTo_mono (show m + 2 ≤ n by omega) h
    simp only [ascTo, Bool.and_eq_true] at h2
    by_cases e : i = m
    · subst e; exact h2.2
    · exact tless_trans (ih (by omega) (by omega)) h2.2
/-- A text is one of the first n. -/
def isIn (g : Nat → ByteArray) (n : Nat) (t : ByteArray) : Bool := (List.range n).any fun i => (g i).toList == t.toList
theorem isIn_at {g : Nat → ByteArray} {n i : Nat} {t : ByteArray} (hs : ascTo g n = true) (hi : i ≤ n) (h1 : ∀ m, m < i → tless (g m) t = true) (h2 : ∀ m, i ≤ m → m < n → tless (g m) t = false) : isIn g n t = (decide (i < n) && ((g i).toList == t.toList)) := by
  by_cases hlt : i < n
  · simp only [hlt, decide_true, Bool.true_and]
    cases e : (g i).toList == t.toList with
    | true =>
      simp only [isIn, List.any_eq_true, List.mem_range]
      exact ⟨i, hlt, e⟩
    | false =>
      simp only [isIn, List.any_eq_false, List.mem_range]
      intro m hm hq
      have hq' : (g m).toList = t.toList := by simpa using hq
      rcases Nat.lt_trichotomy m i with c | c | c
      · have := h1 m c
        simp only [tless, hq'] at this
        have h3 := tless_irrefl t
        simp only [tless] at h3
        rw [h3] at this
        cases this
      · subst c
        rw [hq] at e
        cases e
      · have h3 := asc_lt hs c hm
        simp only [tless, hq'] at h3
        have h4 := h2 i (Nat.le_refl _) hlt
        simp only [tless] at h4
        rw [h3] at h4
        cases h4
  · have e : i = n := by omega
    subst e
    simp only [Nat.lt_irrefl, decide_false, Bool.false_and]
    simp only [isIn, List.any_eq_false, List.mem_range]
    intro m hm hq
    have hq' : (g m).toList = t.toList := by simpa using hq
    have := h1 m hm
    simp only [tless, hq'] at this
    have h3 := tless_irrefl t
    simp only [tless] at h3
    rw [h3] at this
    cases this

set_option maxHeartbeats 1000000 in
theorem cNaN (x : ByteArray) (w : World) : Calls Tryz.prog 138 #[.string x] w fun e w' => e = .returned (.bool false) ∧ w' = w := by
  go_enter Tryz.func138, Tryz.ntmps138
  go_wp2
  go_ret
  exact ⟨by simp, rfl⟩
set_option maxHeartbeats 1000000 in
theorem sNaN (x : ByteArray) (w : World) : Calls Tryz.prog 123 #[.string x] w fun e w' => e = .returned (.bool false) ∧ w' = w := by
  go_enter Tryz.func123, Tryz.ntmps123
  go_wp2
  go_ret
  exact ⟨by simp, rfl⟩
set_option maxHeartbeats 1000000 in
theorem cLess (x y : ByteArray) (w : World) : Calls Tryz.prog 122 #[.string x, .string y] w fun e w' => e = .returned (.bool (tless x y)) ∧ w' = w := by
  go_enter Tryz.func122, Tryz.ntmps122
  go_wp2_with (go_at_call 138; refine (cNaN _ _).mono ?_; rintro e w1 ⟨rfl, rfl⟩)
  all_goals
    go_ret
    exact ⟨by simp, rfl⟩

set_option maxHeartbeats 2000000 in
theorem search_row (b off n cap : Nat) (g : Nat → ByteArray) (t : ByteArray) (w : World) (hn : (n : Int) ≤ 1048576) (hr : RowStr w b off n g) (hs : ascTo g n = true) :
    Calls Tryz.prog 90 #[.slice (some ⟨b, off, none⟩) n cap, .string t] w fun e w' => ∃ i : Int, e = .returned (.tuple #[.int .i64 i, .bool (isIn g n t)]) ∧ w' = w := by
  have HR := hide hr
  have HS := hide hs
  clear hr hs
  obtain ⟨I, hI2⟩ : ∃ I, I = isIn g n t := ⟨_, rfl⟩
  rw [← hI2]
  have HI2 := hide hI2
  clear hI2
  go_enter Tryz.func90, Tryz.ntmps90
  go_wp2
  go_loop [7, 8] (fun i j => ∃ p q : Nat, p ≤ q ∧ q ≤ n ∧ i = .int .i64 p ∧ j = .int .i64 q ∧ Hid (∀ m, m < p → tless (g m) t = true) ∧ Hid (∀ m, q ≤ m → m < n → tless (g m) t = false)) (fun i j => (intOf j).toNat - (intOf i).toNat)
  case atStart => exact ⟨0, n, by omega, by omega, rfl, rfl, fun m hm => absurd hm (Nat.not_lt_zero _), fun m h1 h2 => by omega⟩
  case round =>
    obtain ⟨p, q, hpq, hq, rfl, rfl, H1, H2⟩ := hrel
    by_cases hlt : p < q
    · obtain ⟨m, hm⟩ : ∃ m : Nat, m = (p + q) / 2 := ⟨_, rfl⟩
      have hm1 : p ≤ m := by omega
      have hm2 : m < q := by omega
      have c0 := HR.out.2 m (by omega)
      have hsh : ((p : Int) + q) / 2 = m := by omega
      clear hm
      cases hb : tless (g m) t with
      | true =>
        have HB := hide hb
        clear hb
        go_wp2_with (go_at_call 122; refine (cLess _ _ _).mono ?_; rintro e w1 ⟨rfl, rfl⟩; rw [HB.out])
        refine ⟨⟨m + 1, q, by omega, hq, by go_num, rfl, fun x hx => ?_, H2.out⟩, by simp [intOf]; omega⟩
        by_cases e : x = m
        · subst e; exact HB.out
        · exact tless_trans (asc_lt HS.out (show x < m by omega) (by omega)) HB.out
      | false =>
        have HB := hide hb
        clear hb
        go_wp2_with (go_at_call 122; refine (cLess _ _ _).mono ?_; rintro e w1 ⟨rfl, rfl⟩; rw [HB.out])
        refine ⟨⟨p, m, hm1, by omega, rfl, rfl, H1.out, fun x h1 h2 => ?_⟩, by simp [intOf]; omega⟩
        by_cases e : x = m
        · subst e; exact HB.out
        · cases hx : tless (g x) t with
          | false => rfl
          | true =>
            have := tless_trans (asc_lt HS.out (show m < x by omega) h2) hx
            rw [HB.out] at this
            cases this
    · have e : p = q := by omega
      subst e
      have HI := hide (HI2.out.trans (isIn_at HS.out hq H1.out H2.out))
      by_cases hlt2 : p < n
      · have c0 := HR.out.2 p hlt2
        cases hb : ((g p).toList == t.toList) with
        | true =>
          have hI3 : I = true := by rw [HI.out, hb]; simp [hlt2]
          subst hI3
          go_wp2
          refine bodyPost_ret (v := .tuple #[.int .i64 p, .bool true]) (by simp [results, Tryz.results90, go_sem]) rfl (by first | exact ⟨⟨_, rfl⟩, rfl⟩ | exact ⟨_, rfl, rfl⟩)
        | false =>
          have hI3 : I = false := by rw [HI.out, hb]; simp
          subst hI3
          go_wp2_with (go_at_call 123; refine (sNaN _ _).mono ?_; rintro e w1 ⟨rfl, rfl⟩)
          all_goals
            refine bodyPost_ret (v := .tuple #[.int .i64 p, .bool false]) (by simp [results, Tryz.results90, go_sem]) rfl (by first | exact ⟨⟨_, rfl⟩, rfl⟩ | exact ⟨_, rfl, rfl⟩)
      · have hI3 : I = false := by rw [HI.out]; simp [hlt2]
        subst hI3
        go_wp2
        refine bodyPost_ret (v := .tuple #[.int .i64 p, .bool false]) (by simp [results, Tryz.results90, go_sem]) rfl (by first | exact ⟨⟨_, rfl⟩, rfl⟩ | exact ⟨_, rfl, rfl⟩)

set_option maxHeartbeats 1000000 in
theorem search_nil (a : Option Addr) (cap : Nat) (t : ByteArray) (w : World) :
    Calls Tryz.prog 90 #[.slice a 0 cap, .string t] w fun e w' => ∃ i : Int, e = .returned (.tuple #[.int .i64 i, .bool false]) ∧ w' = w := by
  go_enter Tryz.func90, Tryz.ntmps90
  go_wp2
  go_loop [7, 8] (fun i j => i = .int .i64 0 ∧ j = .int .i64 0) (fun _ _ => 0)
  case atStart => exact ⟨rfl, rfl⟩
  case round =>
    obtain ⟨rfl, rfl⟩ := hrel
    go_wp2
    refine bodyPost_ret (v := .tuple #[.int .i64 0, .bool false]) (by simp [results, Tryz.results90, go_sem]) rfl (by first | exact ⟨⟨_, rfl⟩, rfl⟩ | exact ⟨_, rfl, rfl⟩)

end Go.Proofs.YtfhdecheaeoopaaGreatDoor.Vp

/-
  impl: meet.
-/
namespace Go.Proofs.YtfhdecheaeoopaaGreatDoor.Vp
open Go.RowKit

theorem isIn_zero (g : Nat → ByteArray) (t : ByteArray) : isIn g 0 t = false := rfl
theorem search_any (a : Option Addr) (n cap : Nat) (g : Nat → ByteArray) (t : ByteArray) (w : World) (hn : (n : Int) ≤ 1048576) (hr : SlStr w a n g) (hs : ascTo g n = true) :
    Calls Tryz.prog 90 #[.slice a n cap, .string t] w fun e w' => ∃ i : Int, e = .returned (.tuple #[.int .i64 i, .bool (isIn g n t)]) ∧ w' = w := by
  rcases hr with rfl | ⟨b, off, rfl, hr⟩
  · exact search_nil a cap t w
  · exact search_row b off n cap g t w hn hr hs

set_option maxHeartbeats 1000000 in
theorem meet1_any (s : ByteArray) (bx : Nat) (a : Option Addr) (n cap : Nat) (g : Nat → ByteArray) (w : World) (hc : w.cell? ⟨bx, 0, none⟩ = some (.slice a n cap)) (hn : (n : Int) ≤ 1048576) (hr : SlStr w a n g) (hs : ascTo g n = true) :
    Calls Tryz.prog 89 #[.string s, .pointer (some ⟨bx, 0, none⟩)] w fun e w' => e = .returned (.bool (isIn g n s)) ∧ w' = w := by
  have HR := hide hr
  have HS := hide hs
  clear hr hs
  go_enter Tryz.func89, Tryz.ntmps89
  go_wp2_with fail
  refine (search_any a n cap g s _ hn HR.out HS.out).mono ?_
  rintro e w1 ⟨i, rfl, rfl⟩
  go_wp2
  go_ret
  exact ⟨rfl, rfl⟩

def anyTo (p : Nat → Bool) : Nat → Bool
  | 0 => false
  | k + 1 => anyTo p k || p k
theorem anyTo_true {p : Nat → Bool} {k n : Nat} (h : k < n) (hk : p k = true) : anyTo p n = true := by
  induction n with
  | zero => omega
  | succ m ih =>
    by_cases e : k = m
    · subst e; simp [anyTo, hk]
    · simp [anyTo, ih (by omega)]

set_option maxHeartbeats 2000000 in
theorem index_row (b off m c : Nat) (h : Nat → ByteArray) (bx : Nat) (a : Option Addr) (n cap : Nat) (g : Nat → ByteArray) (w : World) (hm : (m : Int) ≤ 1048576) (hrow : RowStr w b off m h) (hc : w.cell? ⟨bx, 0, none⟩ = some (.slice a n cap)) (hn : (n : Int) ≤ 1048576) (hr : SlStr w a n g) (hs : ascTo g n = true) :
    Calls Tryz.prog 121 #[.slice (some ⟨b, off, none⟩) m c, .func (.func 89) #[] #[.pointer (some ⟨bx, 0, none⟩)]] w fun e w' => ∃ r : Int, e = .returned (.int .i64 r) ∧ decide (0 ≤ r) = anyTo (fun i => isIn g n (h i)) m ∧ w' = w := by
  have HW := hide hrow
  have HR := hide hr
  have HS := hide hs
  clear hr hs hrow
  go_enter Tryz.func121, Tryz.ntmps121
  go_wp2
  go_loop [8] (fun i => ∃ k : Nat, k ≤ m ∧ i = .int .i64 k ∧ Hid (anyTo (fun i => isIn g n (h i)) k = false)) (fun i => m - (intOf i).toNat)
  case atStart => exact ⟨0, by omega, rfl, rfl⟩
  case round =>
    obtain ⟨k, hk, rfl, HK⟩ := hrel
    by_cases hlt : k < m
    · have c0 := HW.out.2 k hlt
      cases hb : isIn g n (h k) with
      | true =>
        have HB := hide hb
        clear hb
        go_wp2_with (go_at_call 89; refine (meet1_any _ bx a n cap g _ hc hn HR.out HS.out).mono ?_; rintro e w1 ⟨rfl, rfl⟩; rw [HB.out])
        go_ret
        exact ⟨k, rfl, by rw [anyTo_true hlt HB.out]; simp, rfl⟩
      | false =>
        have HB := hide hb
        clear hb
        go_wp2_with (go_at_call 89; refine (meet1_any _ bx a n cap g _ hc hn HR.out HS.out).mono ?_; rintro e w1 ⟨rfl, rfl⟩; rw [HB.out])
        exact ⟨⟨k + 1, by omega, by go_num, by show anyTo _ (k + 1) = false; simp [anyTo, HK.out, HB.out]⟩, by simp [intOf]; omega⟩
    · have e : k = m := by omega
      subst e
      go_wp2
      go_ret
      exact ⟨-1, rfl, by rw [HK.out]; rfl, rfl⟩

set_option maxHeartbeats 1000000 in
theorem index_nil (a0 : Option Addr) (c : Nat) (fv : Value) (bx : Nat) (hf : fv = .func (.func 89) #[] #[.pointer (some ⟨bx, 0, none⟩)]) (w : World) :
    Calls Tryz.prog 121 #[.slice a0 0 c, fv] w fun e w' => ∃ r : Int, e = .returned (.int .i64 r) ∧ decide (0 ≤ r) = false ∧ w' = w := by
  subst hf
  go_enter Tryz.func121, Tryz.ntmps121
  go_wp2
  go_loop [8] (fun i => i = .int .i64 0) (fun _ => 0)
  case atStart => rfl
  case round =>
    subst hrel
    go_wp2
    go_ret
    first
      | exact ⟨-1, rfl, rfl, rfl⟩
      | exact ⟨-1, rfl, by decide, rfl⟩
      | exact ⟨⟨-1, rfl, by decide⟩, rfl⟩
      | exact ⟨-1, by decide, rfl⟩
theorem index_any (a0 : Option Addr) (m c : Nat) (h : Nat → ByteArray) (bx : Nat) (a : Option Addr) (n cap : Nat) (g : Nat → ByteArray) (w : World) (hm : (m : Int) ≤ 1048576) (hrow : SlStr w a0 m h) (hc : w.cell? ⟨bx, 0, none⟩ = some (.slice a n cap)) (hn : (n : Int) ≤ 1048576) (hr : SlStr w a n g) (hs : ascTo g n = true) :
    Calls Tryz.prog 121 #[.slice a0 m c, .func (.func 89) #[] #[.pointer (some ⟨bx, 0, none⟩)]] w fun e w' => ∃ r : Int, e = .returned (.int .i64 r) ∧ decide (0 ≤ r) = anyTo (fun i => isIn g n (h i)) m ∧ w' = w := by
  rcases hrow with rfl | ⟨b, off, rfl, hrow⟩
  · exact index_nil a0 c _ bx rfl w
  · exact index_row b off m c h bx a n cap g w hm hrow hc hn hr hs
set_option maxHeartbeats 1000000 in
theorem contains_any (a0 : Option Addr) (m c : Nat) (h : Nat → ByteArray) (bx : Nat) (a : Option Addr) (n cap : Nat) (g : Nat → ByteArray) (w : World) (hm : (m : Int) ≤ 1048576) (hrow : SlStr w a0 m h) (hc : w.cell? ⟨bx, 0, none⟩ = some (.slice a n cap)) (hn : (n : Int) ≤ 1048576) (hr : SlStr w a n g) (hs : ascTo g n = true) :
    Calls Tryz.prog 88 #[.slice a0 m c, .func (.func 89) #[] #[.pointer (some ⟨bx, 0, none⟩)]] w fun e w' => e = .returned (.bool (anyTo (fun i => isIn g n (h i)) m)) ∧ w' = w := by
  have HQ := hide (index_any a0 m c h bx a n cap g w hm hrow hc hn hr hs)
  obtain ⟨A, hA⟩ : ∃ A, A = anyTo (fun i => isIn g n (h i)) m := ⟨_, rfl⟩
  rw [← hA]
  rw [← hA] at HQ
  clear hA hr hs hrow
  go_enter Tryz.func88, Tryz.ntmps88
  go_wp2_with fail
  refine HQ.out.mono ?_
  rintro e w1 ⟨r, rfl, hd, rfl⟩
  have HD := hide hd
  clear hd
  go_wp2
  go_ret
  exact ⟨ret_bool HD.out, rfl⟩
set_option maxHeartbeats 1000000 in
theorem meet_any (a0 : Option Addr) (m c : Nat) (h : Nat → ByteArray) (a : Option Addr) (n cap : Nat) (g : Nat → ByteArray) (w : World) (hm : (m : Int) ≤ 1048576) (hrow : SlStr w a0 m h) (hn : (n : Int) ≤ 1048576) (hr : SlStr w a n g) (hs : ascTo g n = true) :
    Calls Tryz.prog 57 #[.slice a0 m c, .slice a n cap] w fun e w' => e = .returned (.bool (anyTo (fun i => isIn g n (h i)) m)) ∧ Below w.heap.size w w' := by
  have A0 := hide ((Below.refl w.heap.size w).alloc (Nat.le_refl _) (.cells #[.slice a n cap] 108))
  have HQ := hide (contains_any a0 m c h w.heap.size a n cap g (w.alloc (.cells #[.slice a n cap] 108)) hm (hrow.below A0.out (Nat.le_refl _)) (by simp) hn (hr.below A0.out (Nat.le_refl _)) hs)
  obtain ⟨A, hA⟩ : ∃ A, A = anyTo (fun i => isIn g n (h i)) m := ⟨_, rfl⟩
  rw [← hA]
  rw [← hA] at HQ
  clear hA hr hs hrow
  go_enter Tryz.func57, Tryz.ntmps57
  go_wp2_with fail
  refine HQ.out.mono ?_
  rintro e w1 ⟨rfl, rfl⟩
  go_wp2
  go_ret
  exact ⟨rfl, A0.out⟩

end Go.Proofs.YtfhdecheaeoopaaGreatDoor.Vp

/-
  impl: texts that are too long, actions that are not valid.
-/
namespace Go.Proofs.YtfhdecheaeoopaaGreatDoor.Vp
open Go.RowKit

def longT (x : Source) : Bool := decide (2000 < (x.text.size : Int))
set_option maxHeartbeats 1000000 in
theorem cs1_any (nm tx : ByteArray) (w : World) : Calls Tryz.prog 59 #[.agg #[.string nm, .string tx]] w fun e w' => e = .returned (.bool (decide (2000 < (tx.size : Int)))) ∧ Below w.heap.size w w' := by
  go_enter Tryz.func59, Tryz.ntmps59
  go_wp2
  go_ret
  exact ⟨rfl, (Below.refl _ _).alloc (Nat.le_refl _) _⟩

set_option maxHeartbeats 2000000 in
theorem indexS_row (b off m c : Nat) (f : Nat → Source) (w : World) (hm : (m : Int) ≤ 1048576) (hrow : RowSource w b off m f) :
    Calls Tryz.prog 91 #[.slice (some ⟨b, off, none⟩) m c, .func (.func 59) #[] #[]] w fun e w' => ∃ r : Int, e = .returned (.int .i64 r) ∧ decide (0 ≤ r) = anyTo (fun i => longT (f i)) m ∧ Below w.heap.size w w' := by
  have HW := hide hrow
  clear hrow
  go_enter Tryz.func91, Tryz.ntmps91
  go_wp2
  go_loopw [8] (fun i wr => ∃ k : Nat, k ≤ m ∧ i = .int .i64 k ∧ Hid (anyTo (fun i => longT (f i)) k = false) ∧ Below w.heap.size w wr) (fun i _ => m - (intOf i).toNat)
  case atStart => exact ⟨0, by omega, rfl, rfl, Below.refl _ _⟩
  case round =>
    obtain ⟨k, hk, rfl, HK, hB⟩ := hrel
    have HB0 := hide hB
    clear hB
    by_cases hlt : k < m
    · obtain ⟨c0, c1⟩ := (HW.out.2 k hlt).below HB0.out HW.out.1
      go_wp2_with fail
      refine (cs1_any _ _ _).mono ?_
      rintro e w1 ⟨rfl, hB1⟩
      have B1 := hide (HB0.out.trans (hB1.mono HB0.out.size))
      clear hB1
      cases hb : longT (f k) with
      | true =>
        have HB := hide hb
        have h2 : decide (2000 < ((f k).text.size : Int)) = true := hb
        clear hb
        rw [h2]
        clear h2
        go_wp2
        go_ret
        exact ⟨k, rfl, by rw [anyTo_true (p := fun i => longT (f i)) hlt HB.out]; simp, B1.out⟩
      | false =>
        have HB := hide hb
        have h2 : decide (2000 < ((f k).text.size : Int)) = false := hb
        clear hb
        rw [h2]
        clear h2
        go_wp2
        exact ⟨⟨k + 1, by omega, by go_num, by show anyTo _ (k + 1) = false; simp [anyTo, HK.out, HB.out], B1.out⟩, by simp [intOf]; omega⟩
    · have e : k = m := by omega
      subst e
      go_wp2
      go_ret
      exact ⟨-1, rfl, by rw [HK.out]; rfl, HB0.out⟩
set_option maxHeartbeats 1000000 in
theorem indexS_nil (a0 : Option Addr) (c : Nat) (w : World) :
    Calls Tryz.prog 91 #[.slice a0 0 c, .func (.func 59) #[] #[]] w fun e w' => e = .returned (.int .i64 (-1)) ∧ w' = w := by
  go_enter Tryz.func91, Tryz.ntmps91
  go_wp2
  go_loop [8] (fun i => i = .int .i64 0) (fun _ => 0)
  case atStart => rfl
  case round =>
    subst hrel
    go_wp2
    go_ret
    exact ⟨rfl, rfl⟩
theorem indexS_any (a0 : Option Addr) (m c : Nat) (f : Nat → Source) (w : World) (hm : (m : Int) ≤ 1048576) (hrow : SlSource w a0 m f) :
    Calls Tryz.prog 91 #[.slice a0 m c, .func (.func 59) #[] #[]] w fun e w' => ∃ r : Int, e = .returned (.int .i64 r) ∧ decide (0 ≤ r) = anyTo (fun i => longT (f i)) m ∧ Below w.heap.size w w' := by
  rcases hrow with rfl | ⟨b, off, rfl, hrow⟩
  · exact (indexS_nil a0 c w).mono fun e w' ⟨p, q⟩ => ⟨-1, p, rfl, by rw [q]; exact Below.refl _ _⟩
  · exact indexS_row b off m c f w hm hrow
set_option maxHeartbeats 1000000 in
theorem containsS_any (a0 : Option Addr) (m c : Nat) (f : Nat → Source) (w : World) (hm : (m : Int) ≤ 1048576) (hrow : SlSource w a0 m f) :
    Calls Tryz.prog 58 #[.slice a0 m c, .func (.func 59) #[] #[]] w fun e w' => e = .returned (.bool (anyTo (fun i => longT (f i)) m)) ∧ Below w.heap.size w w' := by
  have HQ := hide (indexS_any a0 m c f w hm hrow)
  obtain ⟨A, hA⟩ : ∃ A, A = anyTo (fun i => longT (f i)) m := ⟨_, rfl⟩
  rw [← hA]
  rw [← hA] at HQ
  clear hA hrow
  go_enter Tryz.func58, Tryz.ntmps58
  go_wp2_with fail
  refine HQ.out.mono ?_
  rintro e w1 ⟨r, rfl, hd, hB⟩
  have HD := hide hd
  have HB := hide hB
  clear hd hB
  go_wp2
  go_ret
  exact ⟨ret_bool HD.out, HB.out⟩

def wrongA (x : Target) : Bool := !valid x.act x.actN
set_option maxHeartbeats 1000000 in
theorem cs2_any (nm : ByteArray) (a : Option Addr) (n cap : Nat) (f : Nat → Ins) (w : World) (hn : n ≤ 1048576) (hv : SlIns w a n f) (hT : Tab w) : Calls Tryz.prog 61 #[.agg #[.string nm, .slice a n cap]] w fun e w' => e = .returned (.bool (!valid f n)) ∧ Below w.heap.size w w' := by
  have A0 := hide ((Below.refl w.heap.size w).alloc (Nat.le_refl _) (.cells #[.string nm, .slice a n cap] 103))
  have HQ := hide (implValid_sl a n cap f (w.alloc (.cells #[.string nm, .slice a n cap] 103)) hn (hv.below A0.out (Nat.le_refl _)) (hT.below A0.out hT.1))
  clear hv hT
  go_enter Tryz.func61, Tryz.ntmps61
  go_wp2_with fail
  refine HQ.out.mono ?_
  rintro e w1 ⟨rfl, hB⟩
  have HB := hide (A0.out.trans (hB.mono (by simp)))
  clear hB
  go_wp2
  go_ret
  exact ⟨rfl, HB.out⟩

set_option maxHeartbeats 2000000 in
theorem indexT_row (b off m c : Nat) (f : Nat → Target) (w : World) (hm : (m : Int) ≤ 1048576) (hfit : ∀ i, i < m → FitsTarget (f i)) (hT : Tab w) (hrow : RowTarget w b off m f) :
    Calls Tryz.prog 92 #[.slice (some ⟨b, off, none⟩) m c, .func (.func 61) #[] #[]] w fun e w' => ∃ r : Int, e = .returned (.int .i64 r) ∧ decide (0 ≤ r) = anyTo (fun i => wrongA (f i)) m ∧ Below w.heap.size w w' := by
  have HW := hide hrow
  have HF := hide hfit
  have HT := hide hT
  clear hrow hfit hT
  go_enter Tryz.func92, Tryz.ntmps92
  go_wp2
  go_loopw [8] (fun i wr => ∃ k : Nat, k ≤ m ∧ i = .int .i64 k ∧ Hid (anyTo (fun i => wrongA (f i)) k = false) ∧ Below w.heap.size w wr) (fun i _ => m - (intOf i).toNat)
  case atStart => exact ⟨0, by omega, rfl, rfl, Below.refl _ _⟩
  case round =>
    obtain ⟨k, hk, rfl, HK, hB⟩ := hrel
    have HB0 := hide hB
    clear hB
    by_cases hlt : k < m
    · obtain ⟨c0, ka, kc, c1, hk1⟩ := (HW.out.2 k hlt).below HB0.out (Nat.le_refl _) HW.out.1
      have HK1 := hide hk1
      clear hk1
      go_wp2_with fail
      refine (cs2_any (f k).name ka (f k).actN kc (f k).act _ (HF.out k hlt) HK1.out (HT.out.below HB0.out HT.out.1)).mono ?_
      rintro e w1 ⟨rfl, hB1⟩
      have B1 := hide (HB0.out.trans (hB1.mono HB0.out.size))
      clear hB1
      cases hb : wrongA (f k) with
      | true =>
        have HB := hide hb
        have h2 : (!valid (f k).act (f k).actN) = true := hb
        clear hb
        rw [h2]
        clear h2
        go_wp2
        go_ret
        exact ⟨k, rfl, by rw [anyTo_true (p := fun i => wrongA (f i)) hlt HB.out]; simp, B1.out⟩
      | false =>
        have HB := hide hb
        have h2 : (!valid (f k).act (f k).actN) = false := hb
        clear hb
        rw [h2]
        clear h2
        go_wp2
        exact ⟨⟨k + 1, by omega, by go_num, by show anyTo _ (k + 1) = false; simp [anyTo, HK.out, HB.out], B1.out⟩, by simp [intOf]; omega⟩
    · have e : k = m := by omega
      subst e
      go_wp2
      go_ret
      exact ⟨-1, rfl, by rw [HK.out]; rfl, HB0.out⟩
set_option maxHeartbeats 1000000 in
theorem indexT_nil (a0 : Option Addr) (c : Nat) (w : World) :
    Calls Tryz.prog 92 #[.slice a0 0 c, .func (.func 61) #[] #[]] w fun e w' => e = .returned (.int .i64 (-1)) ∧ w' = w := by
  go_enter Tryz.func92, Tryz.ntmps92
  go_wp2
  go_loop [8] (fun i => i = .int .i64 0) (fun _ => 0)
  case atStart => rfl
  case round =>
    subst hrel
    go_wp2
    go_ret
    exact ⟨rfl, rfl⟩
theorem indexT_any (a0 : Option Addr) (m c : Nat) (f : Nat → Target) (w : World) (hm : (m : Int) ≤ 1048576) (hfit : ∀ i, i < m → FitsTarget (f i)) (hT : Tab w) (hrow : SlTarget w a0 m f) :
    Calls Tryz.prog 92 #[.slice a0 m c, .func (.func 61) #[] #[]] w fun e w' => ∃ r : Int, e = .returned (.int .i64 r) ∧ decide (0 ≤ r) = anyTo (fun i => wrongA (f i)) m ∧ Below w.heap.size w w' := by
  rcases hrow with rfl | ⟨b, off, rfl, hrow⟩
  · exact (indexT_nil a0 c w).mono fun e w' ⟨p, q⟩ => ⟨-1, p, rfl, by rw [q]; exact Below.refl _ _⟩
  · exact indexT_row b off m c f w hm hfit hT hrow
set_option maxHeartbeats 1000000 in
theorem containsT_any (a0 : Option Addr) (m c : Nat) (f : Nat → Target) (w : World) (hm : (m : Int) ≤ 1048576) (hfit : ∀ i, i < m → FitsTarget (f i)) (hT : Tab w) (hrow : SlTarget w a0 m f) :
    Calls Tryz.prog 60 #[.slice a0 m c, .func (.func 61) #[] #[]] w fun e w' => e = .returned (.bool (anyTo (fun i => wrongA (f i)) m)) ∧ Below w.heap.size w w' := by
  have HQ := hide (indexT_any a0 m c f w hm hfit hT hrow)
  obtain ⟨A, hA⟩ : ∃ A, A = anyTo (fun i => wrongA (f i)) m := ⟨_, rfl⟩
  rw [← hA]
  rw [← hA] at HQ
  clear hA hrow hfit hT
  go_enter Tryz.func60, Tryz.ntmps60
  go_wp2_with fail
  refine HQ.out.mono ?_
  rintro e w1 ⟨r, rfl, hd, hB⟩
  have HD := hide hd
  have HB := hide hB
  clear hd hB
  go_wp2
  go_ret
  exact ⟨ret_bool HD.out, HB.out⟩

end Go.Proofs.YtfhdecheaeoopaaGreatDoor.Vp
