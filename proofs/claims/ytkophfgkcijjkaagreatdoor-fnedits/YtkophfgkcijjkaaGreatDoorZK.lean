import Derived.Test.YtkophfgkcijjkaaGreatDoorZH
import Derived.Sort.Walk0
namespace Go.Proofs.YtkophfgkcijjkaaGreatDoor.Vp
open Go.RowKit Go.Sort
abbrev tless (a b : ByteArray) : Bool := Op.bytesLess a.toList b.toList
theorem tless_trans {a b c : ByteArray} (h1 : tless a b = true) (h2 : tless b c = true) : tless a c = true := by
  simp only [tless, bytesLess_eq, decide_eq_true_eq] at *
  exact List.lt_trans h1 h2
theorem tless_irrefl (a : ByteArray) : tless a a = false := by
  simp only [tless, bytesLess_eq, decide_eq_false_iff_not]
  exact List.lt_irrefl _
theorem asc_lt {g : Nat → ByteArray} {n : Nat} (h : ascTo g n = true) {i j : Nat} (hij : i < j) (hj : j < n) : tless (g i) (g j) = true := by
  induction j with
  | zero => omega
  | succ m ih =>
    have h2 := ascTo_mono (show m + 2 ≤ n by omega) h
    simp only [ascTo, Bool.and_eq_true] at h2
    by_cases e : i = m
    · subst e; exact h2.2
    · exact tless_trans (ih (by omega) (by omega)) h2.2
def isIn (g : Nat → ByteArray) (n : Nat) (t : ByteArray) : Bool := (List.range n).any fun i => (g i).toList == t.toList
theorem isIn_at {g : Nat → ByteArray} {n i : Nat} {t : ByteArray} (hs : ascTo g n = true) (hi : i ≤ n) (h1 : ∀ m, m < i → tless (g m) t = true) (h2 : ∀ m, i ≤ m → m < n → tless (g m) t = false) : isIn g n t = (decide (i < n) && ((g i).toList == t.toList)) := by
  by_cases hlt : i < n
  · simp only [hlt, decide_true, Bool.true_and]
    cases e : (g i).toList == t.toList with
    | true =>
      simp only [isIn, List.any_eq_true, List.mem_range]
      exact ⟨i, hlt, e⟩
    | false =>
      simp only [isIn, List.any_eq_false, List.mem_range]
      intro m hm hq
      have hq' : (g m).toList = t.toList := by simpa using hq
      rcases Nat.lt_trichotomy m i with c | c | c
      · have := h1 m c
        simp only [tless, hq'] at this
        have h3 := tless_irrefl t
        simp only [tless] at h3
        rw [h3] at this
        cases this
      · subst c
        rw [hq] at e
        cases e
      · have h3 := asc_lt hs c hm
        simp only [tless, hq'] at h3
        have h4 := h2 i (Nat.le_refl _) hlt
        simp only [tless] at h4
        rw [h3] at h4
        cases h4
  · have e : i = n := by omega
    subst e
    simp only [Nat.lt_irrefl, decide_false, Bool.false_and]
    simp only [isIn, List.any_eq_false, List.mem_range]
    intro m hm hq
    have hq' : (g m).toList = t.toList := by simpa using hq
    have := h1 m hm
    simp only [tless, hq'] at this
    have h3 := tless_irrefl t
    simp only [tless] at h3
    rw [h3] at this
    cases this
set_option maxHeartbeats 1000000 in
theorem cNaN (x : ByteArray) (w : World) : Calls Tryz.prog 217 #[.string x] w fun e w' => e = .returned (.bool false) ∧ w' = w := by
  go_enter Tryz.func217, Tryz.ntmps217
  go_wp2
  go_ret
  exact ⟨by simp, rfl⟩
set_option maxHeartbeats 1000000 in
theorem sNaN (x : ByteArray) (w : World) : Calls Tryz.prog 191 #[.string x] w fun e w' => e = .returned (.bool false) ∧ w' = w := by
  go_enter Tryz.func191, Tryz.ntmps191
  go_wp2
  go_ret
  exact ⟨by simp, rfl⟩
set_option maxHeartbeats 1000000 in
theorem cLess (x y : ByteArray) (w : World) : Calls Tryz.prog 190 #[.string x, .string y] w fun e w' => e = .returned (.bool (tless x y)) ∧ w' = w := by
  go_enter Tryz.func190, Tryz.ntmps190
  go_wp2_with (go_at_call 217; refine (cNaN _ _).mono ?_; rintro e w1 ⟨rfl, rfl⟩)
  all_goals
    go_ret
    exact ⟨by simp, rfl⟩
set_option maxHeartbeats 2000000 in
theorem search_row (b off n cap : Nat) (g : Nat → ByteArray) (t : ByteArray) (w : World) (hn : (n : Int) ≤ 1048576) (hr : RowStr w b off n g) (hs : ascTo g n = true) :
    Calls Tryz.prog 139 #[.slice (some ⟨b, off, none⟩) n cap, .string t] w fun e w' => ∃ i : Int, e = .returned (.tuple #[.int .i64 i, .bool (isIn g n t)]) ∧ w' = w := by
  have HR := hide hr
  have HS := hide hs
  clear hr hs
  obtain ⟨I, hI2⟩ : ∃ I, I = isIn g n t := ⟨_, rfl⟩
  rw [← hI2]
  have HI2 := hide hI2
  clear hI2
  go_enter Tryz.func139, Tryz.ntmps139
  go_wp2
  go_loop [7, 8] (fun i j => ∃ p q : Nat, p ≤ q ∧ q ≤ n ∧ i = .int .i64 p ∧ j = .int .i64 q ∧ Hid (∀ m, m < p → tless (g m) t = true) ∧ Hid (∀ m, q ≤ m → m < n → tless (g m) t = false)) (fun i j => (intOf j).toNat - (intOf i).toNat)
  case atStart => exact ⟨0, n, by omega, by omega, rfl, rfl, fun m hm => absurd hm (Nat.not_lt_zero _), fun m h1 h2 => by omega⟩
  case round =>
    obtain ⟨p, q, hpq, hq, rfl, rfl, H1, H2⟩ := hrel
    by_cases hlt : p < q
    · obtain ⟨m, hm⟩ : ∃ m : Nat, m = (p + q) / 2 := ⟨_, rfl⟩
      have hm1 : p ≤ m := by omega
      have hm2 : m < q := by omega
      have c0 := HR.out.2 m (by omega)
      have hsh : ((p : Int) + q) / 2 = m := by omega
      clear hm
      cases hb : tless (g m) t with
      | true =>
        have HB := hide hb
        clear hb
        go_wp2_with (go_at_call 190; refine (cLess _ _ _).mono ?_; rintro e w1 ⟨rfl, rfl⟩; rw [HB.out])
        refine ⟨⟨m + 1, q, by omega, hq, by go_num, rfl, fun x hx => ?_, H2.out⟩, by simp [intOf]; omega⟩
        by_cases e : x = m
        · subst e; exact HB.out
        · exact tless_trans (asc_lt HS.out (show x < m by omega) (by omega)) HB.out
      | false =>
        have HB := hide hb
        clear hb
        go_wp2_with (go_at_call 190; refine (cLess _ _ _).mono ?_; rintro e w1 ⟨rfl, rfl⟩; rw [HB.out])
        refine ⟨⟨p, m, hm1, by omega, rfl, rfl, H1.out, fun x h1 h2 => ?_⟩, by simp [intOf]; omega⟩
        by_cases e : x = m
        · subst e; exact HB.out
        · cases hx : tless (g x) t with
          | false => rfl
          | true =>
            have := tless_trans (asc_lt HS.out (show m < x by omega) h2) hx
            rw [HB.out] at this
            cases this
    · have e : p = q := by omega
      subst e
      have HI := hide (HI2.out.trans (isIn_at HS.out hq H1.out H2.out))
      by_cases hlt2 : p < n
      · have c0 := HR.out.2 p hlt2
        cases hb : ((g p).toList == t.toList) with
        | true =>
          have hI3 : I = true := by rw [HI.out, hb]; simp [hlt2]
          subst hI3
          go_wp2
          refine bodyPost_ret (v := .tuple #[.int .i64 p, .bool true]) (by simp [results, Tryz.results139, go_sem]) rfl (by first | exact ⟨⟨_, rfl⟩, rfl⟩ | exact ⟨_, rfl, rfl⟩)
        | false =>
          have hI3 : I = false := by rw [HI.out, hb]; simp
          subst hI3
          go_wp2_with (go_at_call 191; refine (sNaN _ _).mono ?_; rintro e w1 ⟨rfl, rfl⟩)
          all_goals
            refine bodyPost_ret (v := .tuple #[.int .i64 p, .bool false]) (by simp [results, Tryz.results139, go_sem]) rfl (by first | exact ⟨⟨_, rfl⟩, rfl⟩ | exact ⟨_, rfl, rfl⟩)
      · have hI3 : I = false := by rw [HI.out]; simp [hlt2]
        subst hI3
        go_wp2
        refine bodyPost_ret (v := .tuple #[.int .i64 p, .bool false]) (by simp [results, Tryz.results139, go_sem]) rfl (by first | exact ⟨⟨_, rfl⟩, rfl⟩ | exact ⟨_, rfl, rfl⟩)
set_option maxHeartbeats 1000000 in
theorem search_nil (a : Option Addr) (cap : Nat) (t : ByteArray) (w : World) :
    Calls Tryz.prog 139 #[.slice a 0 cap, .string t] w fun e w' => ∃ i : Int, e = .returned (.tuple #[.int .i64 i, .bool false]) ∧ w' = w := by
  go_enter Tryz.func139, Tryz.ntmps139
  go_wp2
  go_loop [7, 8] (fun i j => i = .int .i64 0 ∧ j = .int .i64 0) (fun _ _ => 0)
  case atStart => exact ⟨rfl, rfl⟩
  case round =>
    obtain ⟨rfl, rfl⟩ := hrel
    go_wp2
    refine bodyPost_ret (v := .tuple #[.int .i64 0, .bool false]) (by simp [results, Tryz.results139, go_sem]) rfl (by first | exact ⟨⟨_, rfl⟩, rfl⟩ | exact ⟨_, rfl, rfl⟩)
end Go.Proofs.YtkophfgkcijjkaaGreatDoor.Vp
namespace Go.Proofs.YtkophfgkcijjkaaGreatDoor.Vp
open Go.RowKit
theorem isIn_zero (g : Nat → ByteArray) (t : ByteArray) : isIn g 0 t = false := rfl
theorem search_any (a : Option Addr) (n cap : Nat) (g : Nat → ByteArray) (t : ByteArray) (w : World) (hn : (n : Int) ≤ 1048576) (hr : SlStr w a n g) (hs : ascTo g n = true) :
    Calls Tryz.prog 139 #[.slice a n cap, .string t] w fun e w' => ∃ i : Int, e = .returned (.tuple #[.int .i64 i, .bool (isIn g n t)]) ∧ w' = w := by
  rcases hr with rfl | ⟨b, off, rfl, hr⟩
  · exact search_nil a cap t w
  · exact search_row b off n cap g t w hn hr hs
set_option maxHeartbeats 1000000 in
theorem meet1_any (s : ByteArray) (bx : Nat) (a : Option Addr) (n cap : Nat) (g : Nat → ByteArray) (w : World) (hc : w.cell? ⟨bx, 0, none⟩ = some (.slice a n cap)) (hn : (n : Int) ≤ 1048576) (hr : SlStr w a n g) (hs : ascTo g n = true) :
    Calls Tryz.prog 138 #[.string s, .pointer (some ⟨bx, 0, none⟩)] w fun e w' => e = .returned (.bool (isIn g n s)) ∧ w' = w := by
  have HR := hide hr
  have HS := hide hs
  clear hr hs
  go_enter Tryz.func138, Tryz.ntmps138
  go_wp2_with fail
  refine (search_any a n cap g s _ hn HR.out HS.out).mono ?_
  rintro e w1 ⟨i, rfl, rfl⟩
  go_wp2
  go_ret
  exact ⟨rfl, rfl⟩
def anyTo (p : Nat → Bool) : Nat → Bool
  | 0 => false
  | k + 1 => anyTo p k || p k
theorem anyTo_true {p : Nat → Bool} {k n : Nat} (h : k < n) (hk : p k = true) : anyTo p n = true := by
  induction n with
  | zero => omega
  | succ m ih =>
    by_cases e : k = m
    · subst e; simp [anyTo, hk]
    · simp [anyTo, ih (by omega)]
set_option maxHeartbeats 2000000 in
theorem index_row (b off m c : Nat) (h : Nat → ByteArray) (bx : Nat) (a : Option Addr) (n cap : Nat) (g : Nat → ByteArray) (w : World) (hm : (m : Int) ≤ 1048576) (hrow : RowStr w b off m h) (hc : w.cell? ⟨bx, 0, none⟩ = some (.slice a n cap)) (hn : (n : Int) ≤ 1048576) (hr : SlStr w a n g) (hs : ascTo g n = true) :
    Calls Tryz.prog 189 #[.slice (some ⟨b, off, none⟩) m c, .func (.func 138) #[] #[.pointer (some ⟨bx, 0, none⟩)]] w fun e w' => ∃ r : Int, e = .returned (.int .i64 r) ∧ decide (0 ≤ r) = anyTo (fun i => isIn g n (h i)) m ∧ w' = w := by
  have HW := hide hrow
  have HR := hide hr
  have HS := hide hs
  clear hr hs hrow
  go_enter Tryz.func189, Tryz.ntmps189
  go_wp2
  go_loop [8] (fun i => ∃ k : Nat, k ≤ m ∧ i = .int .i64 k ∧ Hid (anyTo (fun i => isIn g n (h i)) k = false)) (fun i => m - (intOf i).toNat)
  case atStart => exact ⟨0, by omega, rfl, rfl⟩
  case round =>
    obtain ⟨k, hk, rfl, HK⟩ := hrel
    by_cases hlt : k < m
    · have c0 := HW.out.2 k hlt
      cases hb : isIn g n (h k) with
      | true =>
        have HB := hide hb
        clear hb
        go_wp2_with (go_at_call 138; refine (meet1_any _ bx a n cap g _ hc hn HR.out HS.out).mono ?_; rintro e w1 ⟨rfl, rfl⟩; rw [HB.out])
        go_ret
        exact ⟨k, rfl, by rw [anyTo_true hlt HB.out]; simp, rfl⟩
      | false =>
        have HB := hide hb
        clear hb
        go_wp2_with (go_at_call 138; refine (meet1_any _ bx a n cap g _ hc hn HR.out HS.out).mono ?_; rintro e w1 ⟨rfl, rfl⟩; rw [HB.out])
        exact ⟨⟨k + 1, by omega, by go_num, by show anyTo _ (k + 1) = false; simp [anyTo, HK.out, HB.out]⟩, by simp [intOf]; omega⟩
    · have e : k = m := by omega
      subst e
      go_wp2
      go_ret
      exact ⟨-1, rfl, by rw [HK.out]; rfl, rfl⟩
set_option maxHeartbeats 1000000 in
theorem index_nil (a0 : Option Addr) (c : Nat) (fv : Value) (bx : Nat) (hf : fv = .func (.func 138) #[] #[.pointer (some ⟨bx, 0, none⟩)]) (w : World) :
    Calls Tryz.prog 189 #[.slice a0 0 c, fv] w fun e w' => ∃ r : Int, e = .returned (.int .i64 r) ∧ decide (0 ≤ r) = false ∧ w' = w := by
  subst hf
  go_enter Tryz.func189, Tryz.ntmps189
  go_wp2
  go_loop [8] (fun i => i = .int .i64 0) (fun _ => 0)
  case atStart => rfl
  case round =>
    subst hrel
    go_wp2
    go_ret
    first
      | exact ⟨-1, rfl, rfl, rfl⟩
      | exact ⟨-1, rfl, by decide, rfl⟩
      | exact ⟨⟨-1, rfl, by decide⟩, rfl⟩
      | exact ⟨-1, by decide, rfl⟩
theorem index_any (a0 : Option Addr) (m c : Nat) (h : Nat → ByteArray) (bx : Nat) (a : Option Addr) (n cap : Nat) (g : Nat → ByteArray) (w : World) (hm : (m : Int) ≤ 1048576) (hrow : SlStr w a0 m h) (hc : w.cell? ⟨bx, 0, none⟩ = some (.slice a n cap)) (hn : (n : Int) ≤ 1048576) (hr : SlStr w a n g) (hs : ascTo g n = true) :
    Calls Tryz.prog 189 #[.slice a0 m c, .func (.func 138) #[] #[.pointer (some ⟨bx, 0, none⟩)]] w fun e w' => ∃ r : Int, e = .returned (.int .i64 r) ∧ decide (0 ≤ r) = anyTo (fun i => isIn g n (h i)) m ∧ w' = w := by
  rcases hrow with rfl | ⟨b, off, rfl, hrow⟩
  · exact index_nil a0 c _ bx rfl w
  · exact index_row b off m c h bx a n cap g w hm hrow hc hn hr hs
set_option maxHeartbeats 1000000 in
theorem contains_any (a0 : Option Addr) (m c : Nat) (h : Nat → ByteArray) (bx : Nat) (a : Option Addr) (n cap : Nat) (g : Nat → ByteArray) (w : World) (hm : (m : Int) ≤ 1048576) (hrow : SlStr w a0 m h) (hc : w.cell? ⟨bx, 0, none⟩ = some (.slice a n cap)) (hn : (n : Int) ≤ 1048576) (hr : SlStr w a n g) (hs : ascTo g n = true) :
    Calls Tryz.prog 137 #[.slice a0 m c, .func (.func 138) #[] #[.pointer (some ⟨bx, 0, none⟩)]] w fun e w' => e = .returned (.bool (anyTo (fun i => isIn g n (h i)) m)) ∧ w' = w := by
  have HQ := hide (index_any a0 m c h bx a n cap g w hm hrow hc hn hr hs)
  obtain ⟨A, hA⟩ : ∃ A, A = anyTo (fun i => isIn g n (h i)) m := ⟨_, rfl⟩
  rw [← hA]
  rw [← hA] at HQ
  clear hA hr hs hrow
  go_enter Tryz.func137, Tryz.ntmps137
  go_wp2_with fail
  refine HQ.out.mono ?_
  rintro e w1 ⟨r, rfl, hd, rfl⟩
  have HD := hide hd
  clear hd
  go_wp2
  go_ret
  exact ⟨ret_bool HD.out, rfl⟩
set_option maxHeartbeats 1000000 in
theorem meet_any (a0 : Option Addr) (m c : Nat) (h : Nat → ByteArray) (a : Option Addr) (n cap : Nat) (g : Nat → ByteArray) (w : World) (hm : (m : Int) ≤ 1048576) (hrow : SlStr w a0 m h) (hn : (n : Int) ≤ 1048576) (hr : SlStr w a n g) (hs : ascTo g n = true) :
    Calls Tryz.prog 69 #[.slice a0 m c, .slice a n cap] w fun e w' => e = .returned (.bool (anyTo (fun i => isIn g n (h i)) m)) ∧ Below w.heap.size w w' := by
  have A0 := hide ((Below.refl w.heap.size w).alloc (Nat.le_refl _) (.cells #[.slice a n cap] 39))
  have HQ := hide (contains_any a0 m c h w.heap.size a n cap g (w.alloc (.cells #[.slice a n cap] 39)) hm (hrow.below A0.out (Nat.le_refl _)) (by simp) hn (hr.below A0.out (Nat.le_refl _)) hs)
  obtain ⟨A, hA⟩ : ∃ A, A = anyTo (fun i => isIn g n (h i)) m := ⟨_, rfl⟩
  rw [← hA]
  rw [← hA] at HQ
  clear hA hr hs hrow
  go_enter Tryz.func69, Tryz.ntmps69
  go_wp2_with fail
  refine HQ.out.mono ?_
  rintro e w1 ⟨rfl, rfl⟩
  go_wp2
  go_ret
  exact ⟨rfl, A0.out⟩
end Go.Proofs.YtkophfgkcijjkaaGreatDoor.Vp
namespace Go.Proofs.YtkophfgkcijjkaaGreatDoor.Vp
open Go.RowKit
def longT (x : Source) : Bool := decide (2000 < (x.text.size : Int))
set_option maxHeartbeats 1000000 in
theorem cs1_any (nm tx : ByteArray) (w : World) : Calls Tryz.prog 71 #[.agg #[.string nm, .string tx]] w fun e w' => e = .returned (.bool (decide (2000 < (tx.size : Int)))) ∧ Below w.heap.size w w' := by
  go_enter Tryz.func71, Tryz.ntmps71
  go_wp2
  go_ret
  exact ⟨rfl, (Below.refl _ _).alloc (Nat.le_refl _) _⟩
set_option maxHeartbeats 2000000 in
theorem indexS_row (b off m c : Nat) (f : Nat → Source) (w : World) (hm : (m : Int) ≤ 1048576) (hrow : RowSource w b off m f) :
    Calls Tryz.prog 140 #[.slice (some ⟨b, off, none⟩) m c, .func (.func 71) #[] #[]] w fun e w' => ∃ r : Int, e = .returned (.int .i64 r) ∧ decide (0 ≤ r) = anyTo (fun i => longT (f i)) m ∧ Below w.heap.size w w' := by
  have HW := hide hrow
  clear hrow
  go_enter Tryz.func140, Tryz.ntmps140
  go_wp2
  go_loopw [8] (fun i wr => ∃ k : Nat, k ≤ m ∧ i = .int .i64 k ∧ Hid (anyTo (fun i => longT (f i)) k = false) ∧ Below w.heap.size w wr) (fun i _ => m - (intOf i).toNat)
  case atStart => exact ⟨0, by omega, rfl, rfl, Below.refl _ _⟩
  case round =>
    obtain ⟨k, hk, rfl, HK, hB⟩ := hrel
    have HB0 := hide hB
    clear hB
    by_cases hlt : k < m
    · obtain ⟨c0, c1⟩ := (HW.out.2 k hlt).below HB0.out HW.out.1
      go_wp2_with fail
      refine (cs1_any _ _ _).mono ?_
      rintro e w1 ⟨rfl, hB1⟩
      have B1 := hide (HB0.out.trans (hB1.mono HB0.out.size))
      clear hB1
      cases hb : longT (f k) with
      | true =>
        have HB := hide hb
        have h2 : decide (2000 < ((f k).text.size : Int)) = true := hb
        clear hb
        rw [h2]
        clear h2
        go_wp2
        go_ret
        exact ⟨k, rfl, by rw [anyTo_true (p := fun i => longT (f i)) hlt HB.out]; simp, B1.out⟩
      | false =>
        have HB := hide hb
        have h2 : decide (2000 < ((f k).text.size : Int)) = false := hb
        clear hb
        rw [h2]
        clear h2
        go_wp2
        exact ⟨⟨k + 1, by omega, by go_num, by show anyTo _ (k + 1) = false; simp [anyTo, HK.out, HB.out], B1.out⟩, by simp [intOf]; omega⟩
    · have e : k = m := by omega
      subst e
      go_wp2
      go_ret
      exact ⟨-1, rfl, by rw [HK.out]; rfl, HB0.out⟩
set_option maxHeartbeats 1000000 in
theorem indexS_nil (a0 : Option Addr) (c : Nat) (w : World) :
    Calls Tryz.prog 140 #[.slice a0 0 c, .func (.func 71) #[] #[]] w fun e w' => e = .returned (.int .i64 (-1)) ∧ w' = w := by
  go_enter Tryz.func140, Tryz.ntmps140
  go_wp2
  go_loop [8] (fun i => i = .int .i64 0) (fun _ => 0)
  case atStart => rfl
  case round =>
    subst hrel
    go_wp2
    go_ret
    exact ⟨rfl, rfl⟩
theorem indexS_any (a0 : Option Addr) (m c : Nat) (f : Nat → Source) (w : World) (hm : (m : Int) ≤ 1048576) (hrow : SlSource w a0 m f) :
    Calls Tryz.prog 140 #[.slice a0 m c, .func (.func 71) #[] #[]] w fun e w' => ∃ r : Int, e = .returned (.int .i64 r) ∧ decide (0 ≤ r) = anyTo (fun i => longT (f i)) m ∧ Below w.heap.size w w' := by
  rcases hrow with rfl | ⟨b, off, rfl, hrow⟩
  · exact (indexS_nil a0 c w).mono fun e w' ⟨p, q⟩ => ⟨-1, p, rfl, by rw [q]; exact Below.refl _ _⟩
  · exact indexS_row b off m c f w hm hrow
set_option maxHeartbeats 1000000 in
theorem containsS_any (a0 : Option Addr) (m c : Nat) (f : Nat → Source) (w : World) (hm : (m : Int) ≤ 1048576) (hrow : SlSource w a0 m f) :
    Calls Tryz.prog 70 #[.slice a0 m c, .func (.func 71) #[] #[]] w fun e w' => e = .returned (.bool (anyTo (fun i => longT (f i)) m)) ∧ Below w.heap.size w w' := by
  have HQ := hide (indexS_any a0 m c f w hm hrow)
  obtain ⟨A, hA⟩ : ∃ A, A = anyTo (fun i => longT (f i)) m := ⟨_, rfl⟩
  rw [← hA]
  rw [← hA] at HQ
  clear hA hrow
  go_enter Tryz.func70, Tryz.ntmps70
  go_wp2_with fail
  refine HQ.out.mono ?_
  rintro e w1 ⟨r, rfl, hd, hB⟩
  have HD := hide hd
  have HB := hide hB
  clear hd hB
  go_wp2
  go_ret
  exact ⟨ret_bool HD.out, HB.out⟩
def wrongA (x : Target) : Bool := !valid x.act x.actN
set_option maxHeartbeats 1000000 in
theorem cs2_any (nm : ByteArray) (a : Option Addr) (n cap : Nat) (f : Nat → Ins) (w : World) (hn : n ≤ 1048576) (hv : SlIns w a n f) (hT : Tab w) : Calls Tryz.prog 73 #[.agg #[.string nm, .slice a n cap]] w fun e w' => e = .returned (.bool (!valid f n)) ∧ Below w.heap.size w w' := by
  have A0 := hide ((Below.refl w.heap.size w).alloc (Nat.le_refl _) (.cells #[.string nm, .slice a n cap] 104))
  have HQ := hide (implValid_sl a n cap f (w.alloc (.cells #[.string nm, .slice a n cap] 104)) hn (hv.below A0.out (Nat.le_refl _)) (hT.below A0.out hT.1))
  clear hv hT
  go_enter Tryz.func73, Tryz.ntmps73
  go_wp2_with fail
  refine HQ.out.mono ?_
  rintro e w1 ⟨rfl, hB⟩
  have HB := hide (A0.out.trans (hB.mono (by simp)))
  clear hB
  go_wp2
  go_ret
  exact ⟨rfl, HB.out⟩
set_option maxHeartbeats 2000000 in
theorem indexT_row (b off m c : Nat) (f : Nat → Target) (w : World) (hm : (m : Int) ≤ 1048576) (hfit : ∀ i, i < m → FitsTarget (f i)) (hT : Tab w) (hrow : RowTarget w b off m f) :
    Calls Tryz.prog 141 #[.slice (some ⟨b, off, none⟩) m c, .func (.func 73) #[] #[]] w fun e w' => ∃ r : Int, e = .returned (.int .i64 r) ∧ decide (0 ≤ r) = anyTo (fun i => wrongA (f i)) m ∧ Below w.heap.size w w' := by
  have HW := hide hrow
  have HF := hide hfit
  have HT := hide hT
  clear hrow hfit hT
  go_enter Tryz.func141, Tryz.ntmps141
  go_wp2
  go_loopw [8] (fun i wr => ∃ k : Nat, k ≤ m ∧ i = .int .i64 k ∧ Hid (anyTo (fun i => wrongA (f i)) k = false) ∧ Below w.heap.size w wr) (fun i _ => m - (intOf i).toNat)
  case atStart => exact ⟨0, by omega, rfl, rfl, Below.refl _ _⟩
  case round =>
    obtain ⟨k, hk, rfl, HK, hB⟩ := hrel
    have HB0 := hide hB
    clear hB
    by_cases hlt : k < m
    · obtain ⟨c0, ka, kc, c1, hk1⟩ := (HW.out.2 k hlt).below HB0.out (Nat.le_refl _) HW.out.1
      have HK1 := hide hk1
      clear hk1
      go_wp2_with fail
      refine (cs2_any (f k).name ka (f k).actN kc (f k).act _ (HF.out k hlt) HK1.out (HT.out.below HB0.out HT.out.1)).mono ?_
      rintro e w1 ⟨rfl, hB1⟩
      have B1 := hide (HB0.out.trans (hB1.mono HB0.out.size))
      clear hB1
      cases hb : wrongA (f k) with
      | true =>
        have HB := hide hb
        have h2 : (!valid (f k).act (f k).actN) = true := hb
        clear hb
        rw [h2]
        clear h2
        go_wp2
        go_ret
        exact ⟨k, rfl, by rw [anyTo_true (p := fun i => wrongA (f i)) hlt HB.out]; simp, B1.out⟩
      | false =>
        have HB := hide hb
        have h2 : (!valid (f k).act (f k).actN) = false := hb
        clear hb
        rw [h2]
        clear h2
        go_wp2
        exact ⟨⟨k + 1, by omega, by go_num, by show anyTo _ (k + 1) = false; simp [anyTo, HK.out, HB.out], B1.out⟩, by simp [intOf]; omega⟩
    · have e : k = m := by omega
      subst e
      go_wp2
      go_ret
      exact ⟨-1, rfl, by rw [HK.out]; rfl, HB0.out⟩
set_option maxHeartbeats 1000000 in
theorem indexT_nil (a0 : Option Addr) (c : Nat) (w : World) :
    Calls Tryz.prog 141 #[.slice a0 0 c, .func (.func 73) #[] #[]] w fun e w' => e = .returned (.int .i64 (-1)) ∧ w' = w := by
  go_enter Tryz.func141, Tryz.ntmps141
  go_wp2
  go_loop [8] (fun i => i = .int .i64 0) (fun _ => 0)
  case atStart => rfl
  case round =>
    subst hrel
    go_wp2
    go_ret
    exact ⟨rfl, rfl⟩
theorem indexT_any (a0 : Option Addr) (m c : Nat) (f : Nat → Target) (w : World) (hm : (m : Int) ≤ 1048576) (hfit : ∀ i, i < m → FitsTarget (f i)) (hT : Tab w) (hrow : SlTarget w a0 m f) :
    Calls Tryz.prog 141 #[.slice a0 m c, .func (.func 73) #[] #[]] w fun e w' => ∃ r : Int, e = .returned (.int .i64 r) ∧ decide (0 ≤ r) = anyTo (fun i => wrongA (f i)) m ∧ Below w.heap.size w w' := by
  rcases hrow with rfl | ⟨b, off, rfl, hrow⟩
  · exact (indexT_nil a0 c w).mono fun e w' ⟨p, q⟩ => ⟨-1, p, rfl, by rw [q]; exact Below.refl _ _⟩
  · exact indexT_row b off m c f w hm hfit hT hrow
set_option maxHeartbeats 1000000 in
theorem containsT_any (a0 : Option Addr) (m c : Nat) (f : Nat → Target) (w : World) (hm : (m : Int) ≤ 1048576) (hfit : ∀ i, i < m → FitsTarget (f i)) (hT : Tab w) (hrow : SlTarget w a0 m f) :
    Calls Tryz.prog 72 #[.slice a0 m c, .func (.func 73) #[] #[]] w fun e w' => e = .returned (.bool (anyTo (fun i => wrongA (f i)) m)) ∧ Below w.heap.size w w' := by
  have HQ := hide (indexT_any a0 m c f w hm hfit hT hrow)
  obtain ⟨A, hA⟩ : ∃ A, A = anyTo (fun i => wrongA (f i)) m := ⟨_, rfl⟩
  rw [← hA]
  rw [← hA] at HQ
  clear hA hrow hfit hT
  go_enter Tryz.func72, Tryz.ntmps72
  go_wp2_with fail
  refine HQ.out.mono ?_
  rintro e w1 ⟨r, rfl, hd, hB⟩
  have HD := hide hd
  have HB := hide hB
  clear hd hB
  go_wp2
  go_ret
  exact ⟨ret_bool HD.out, HB.out⟩
end Go.Proofs.YtkophfgkcijjkaaGreatDoor.Vp
namespace Go.Proofs.YtkophfgkcijjkaaGreatDoor.Vp
open Go.RowKit
set_option maxHeartbeats 1000000 in
theorem ascending_nil (a : Option Addr) (cap : Nat) (w : World) : Calls Tryz.prog 68 #[.slice a 0 cap] w fun e w' => e = .returned (.bool true) ∧ w' = w := by
  go_enter Tryz.func68, Tryz.ntmps68
  go_wp2
  go_loop [3] (fun i => i = .int .i64 1) (fun _ => 0)
  case atStart => rfl
  case round =>
    subst hrel
    go_wp2
    go_ret
    exact ⟨rfl, rfl⟩
theorem ascending_any (a : Option Addr) (n cap : Nat) (g : Nat → ByteArray) (w : World) (hn : (n : Int) ≤ 1048576) (hr : SlStr w a n g) :
    Calls Tryz.prog 68 #[.slice a n cap] w fun e w' => e = .returned (.bool (ascTo g n)) ∧ Below w.heap.size w w' := by
  rcases hr with rfl | ⟨b, off, rfl, hr⟩
  · exact (ascending_nil a cap w).mono fun e w' ⟨p, q⟩ => ⟨p, by rw [q]; exact Below.refl _ _⟩
  · exact ascending_row b off n cap g w hn hr
abbrev nm0 (f0 : Nat → Source) : Nat → ByteArray := fun i => (f0 i).name
abbrev nm1 (f1 : Nat → Target) : Nat → ByteArray := fun i => (f1 i).name
def checkC (n0 : Nat) (f0 : Nat → Source) (n1 : Nat) (f1 : Nat → Target) : Int :=
  if 200 < n0 + n1 then 1 else if namesTo (nm0 f0) n0 = false then 2 else if namesTo (nm1 f1) n1 = false then 2 else if ascTo (nm0 f0) n0 = false then 3 else if ascTo (nm1 f1) n1 = false then 4
  else if anyTo (fun i => isIn (nm1 f1) n1 (nm0 f0 i)) n0 = true then 5 else if anyTo (fun i => longT (f0 i)) n0 = true then 6 else if anyTo (fun i => wrongA (f1 i)) n1 = true then 7 else 0
set_option maxHeartbeats 4000000 in
theorem implCheck_any (a0 : Option Addr) (n0 c0 : Nat) (f0 : Nat → Source) (a1 : Option Addr) (n1 c1 : Nat) (f1 : Nat → Target) (w : World) (hn0 : (n0 : Int) ≤ 1048576) (hn1 : (n1 : Int) ≤ 1048576) (hv0 : SlSource w a0 n0 f0) (hv1 : SlTarget w a1 n1 f1) (hfit : ∀ i, i < n1 → FitsTarget (f1 i)) (hT : Tab w) :
    Calls Tryz.prog 13 #[.agg #[.slice a0 n0 c0, .slice a1 n1 c1]] w fun e w' => e = .returned (.int .i64 (checkC n0 f0 n1 f1)) ∧ Below w.heap.size w w' := by
  have V0 := hide hv0
  have V1 := hide hv1
  have HF := hide hfit
  have HT := hide hT
  clear hv0 hv1 hfit hT
  obtain ⟨C, hC⟩ : ∃ C, C = checkC n0 f0 n1 f1 := ⟨_, rfl⟩
  rw [← hC]
  unfold checkC at hC
  have HC := hide hC
  clear hC
  have A0 := hide ((Below.refl w.heap.size w).alloc (Nat.le_refl _) (.cells #[.slice a0 n0 c0, .slice a1 n1 c1] 26))
  go_enter Tryz.func13, Tryz.ntmps13
  go_wp2_with fail
  refine (things_any a0 a1 n0 c0 n1 c1 _ hn0 hn1).mono ?_
  rintro e w1 ⟨rfl, hB⟩
  have k0 : w1.cell? ⟨w.heap.size, 0, none⟩ = some (.slice a0 n0 c0) := (hB.cell (p := ⟨w.heap.size, 0, none⟩) (by simp)).trans (by simp)
  have k1 : w1.cell? ⟨w.heap.size, 1, none⟩ = some (.slice a1 n1 c1) := (hB.cell (p := ⟨w.heap.size, 1, none⟩) (by simp)).trans (by simp)
  have z1 : w.heap.size < w1.heap.size := by have := hB.size; simp at this; omega
  have B1 := hide (A0.out.trans (hB.mono (by simp)))
  clear hB A0
  by_cases h1 : (200 : Int) < n0 + n1
  · have hc := HC.out
    rw [if_pos (by omega)] at hc
    subst hc
    go_wp2
    go_ret
    exact ⟨rfl, B1.out⟩
  have hc1 := HC.out
  rw [if_neg (by omega)] at hc1
  have HC1 := hide hc1
  clear hc1 HC
  go_wp2_with fail
  go_region_with (first
    | (go_at_call 65; refine (sourceNames_any a0 n0 c0 a1 n1 c1 f0 _ hn0 ?_).mono ?_; (first | exact V0.out.below B1.out (Nat.le_refl _) | exact V0.out.below B1.out.drew (Nat.le_refl _)); rintro e w2 ⟨sa, sc, rfl, hs2, hB2⟩; have S2 := hide hs2; have D2 : Hid (Below w1.heap.size w1 w2) := ⟨hB2.os, hB2.tape, hB2.output, hB2.size, hB2.block⟩; have B2 := hide (B1.out.trans (D2.out.mono B1.out.size)); have k20 := (D2.out.cell (p := ⟨w.heap.size, 0, none⟩) z1).trans k0; have k21 := (D2.out.cell (p := ⟨w.heap.size, 1, none⟩) z1).trans k1; have z2 : w.heap.size < w2.heap.size := Nat.lt_of_lt_of_le z1 D2.out.size; clear hs2 hB2)
    | (go_at_call 66; refine (targetNames_any a1 n1 c1 a0 n0 c0 f1 _ hn1 ?_).mono ?_; exact V1.out.below B2.out (Nat.le_refl _); rintro e w3 ⟨ta, tc, rfl, hs3, hB3⟩; have S3 := hide hs3; have R3 := hide (S2.out.below hB3 (Nat.le_refl _)); have B3 := hide (B2.out.trans (hB3.mono B2.out.size)); have k30 := (hB3.cell (p := ⟨w.heap.size, 0, none⟩) z2).trans k20; have k31 := (hB3.cell (p := ⟨w.heap.size, 1, none⟩) z2).trans k21; have z3 : w.heap.size < w3.heap.size := Nat.lt_of_lt_of_le z2 hB3.size; clear hs3 hB3))
  all_goals
    clear k0 k1 k20 k21
    go_wp2_with fail
    refine (areNames_any sa n0 sc (nm0 f0) _ hn0 R3.out).mono ?_
    rintro e w4 ⟨rfl, hB4⟩
    have B4 := hide (B3.out.trans (hB4.mono B3.out.size))
    have R4 := hide (R3.out.below hB4 (Nat.le_refl _))
    have S4 := hide (S3.out.below hB4 (Nat.le_refl _))
    have k40 := (hB4.cell (p := ⟨w.heap.size, 0, none⟩) z3).trans k30
    have k41 := (hB4.cell (p := ⟨w.heap.size, 1, none⟩) z3).trans k31
    have z4 : w.heap.size < w4.heap.size := Nat.lt_of_lt_of_le z3 hB4.size
    clear hB4 k30 k31
    cases q0 : namesTo (nm0 f0) n0 with
    | false =>
      have hc := HC1.out
      rw [if_pos q0] at hc
      subst hc
      clear q0
      go_wp2
      go_ret
      exact ⟨rfl, B4.out⟩
    | true =>
      have hc := HC1.out
      rw [if_neg (by simp [q0])] at hc
      have HC2 := hide hc
      clear hc q0
      go_wp2_with fail
      refine (areNames_any ta n1 tc (nm1 f1) _ hn1 S4.out).mono ?_
      rintro e w5 ⟨rfl, hB5⟩
      have B5 := hide (B4.out.trans (hB5.mono B4.out.size))
      have R5 := hide (R4.out.below hB5 (Nat.le_refl _))
      have S5 := hide (S4.out.below hB5 (Nat.le_refl _))
      have k50 := (hB5.cell (p := ⟨w.heap.size, 0, none⟩) z4).trans k40
      have k51 := (hB5.cell (p := ⟨w.heap.size, 1, none⟩) z4).trans k41
      have z5 : w.heap.size < w5.heap.size := Nat.lt_of_lt_of_le z4 hB5.size
      clear hB5 k40 k41
      cases q1 : namesTo (nm1 f1) n1 with
      | false =>
        have hc := HC2.out
        rw [if_pos q1] at hc
        subst hc
        clear q1
        go_wp2
        go_ret
        exact ⟨rfl, B5.out⟩
      | true =>
        have hc := HC2.out
        rw [if_neg (by simp [q1])] at hc
        have HC3 := hide hc
        clear hc q1
        go_wp2_with fail
        refine (ascending_any sa n0 sc (nm0 f0) _ hn0 R5.out).mono ?_
        rintro e w6 ⟨rfl, hB6⟩
        have B6 := hide (B5.out.trans (hB6.mono B5.out.size))
        have R6 := hide (R5.out.below hB6 (Nat.le_refl _))
        have S6 := hide (S5.out.below hB6 (Nat.le_refl _))
        have k60 := (hB6.cell (p := ⟨w.heap.size, 0, none⟩) z5).trans k50
        have k61 := (hB6.cell (p := ⟨w.heap.size, 1, none⟩) z5).trans k51
        have z6 : w.heap.size < w6.heap.size := Nat.lt_of_lt_of_le z5 hB6.size
        clear hB6 k50 k51
        cases q2 : ascTo (nm0 f0) n0 with
        | false =>
          have hc := HC3.out
          rw [if_pos q2] at hc
          subst hc
          clear q2
          go_wp2
          go_ret
          exact ⟨rfl, B6.out⟩
        | true =>
          have hc := HC3.out
          rw [if_neg (by simp [q2])] at hc
          have HC4 := hide hc
          clear hc q2
          go_wp2_with fail
          refine (ascending_any ta n1 tc (nm1 f1) _ hn1 S6.out).mono ?_
          rintro e w7 ⟨rfl, hB7⟩
          have B7 := hide (B6.out.trans (hB7.mono B6.out.size))
          have R7 := hide (R6.out.below hB7 (Nat.le_refl _))
          have S7 := hide (S6.out.below hB7 (Nat.le_refl _))
          have k70 := (hB7.cell (p := ⟨w.heap.size, 0, none⟩) z6).trans k60
          have k71 := (hB7.cell (p := ⟨w.heap.size, 1, none⟩) z6).trans k61
          have z7 : w.heap.size < w7.heap.size := Nat.lt_of_lt_of_le z6 hB7.size
          clear hB7 k60 k61
          cases q3 : ascTo (nm1 f1) n1 with
          | false =>
            have hc := HC4.out
            rw [if_pos q3] at hc
            subst hc
            clear q3
            go_wp2
            go_ret
            exact ⟨rfl, B7.out⟩
          | true =>
            have hc := HC4.out
            rw [if_neg (by simp [q3])] at hc
            have ASC := hide q3
            have HC5 := hide hc
            clear hc q3
            go_wp2_with fail
            refine (meet_any sa n0 sc (nm0 f0) ta n1 tc (nm1 f1) _ hn0 R7.out hn1 S7.out ASC.out).mono ?_
            rintro e w8 ⟨rfl, hB8⟩
            have B8 := hide (B7.out.trans (hB8.mono B7.out.size))
            have R8 := hide (R7.out.below hB8 (Nat.le_refl _))
            have S8 := hide (S7.out.below hB8 (Nat.le_refl _))
            have k80 := (hB8.cell (p := ⟨w.heap.size, 0, none⟩) z7).trans k70
            have k81 := (hB8.cell (p := ⟨w.heap.size, 1, none⟩) z7).trans k71
            have z8 : w.heap.size < w8.heap.size := Nat.lt_of_lt_of_le z7 hB8.size
            clear hB8 k70 k71
            cases q4 : anyTo (fun i => isIn (nm1 f1) n1 (nm0 f0 i)) n0 with
            | true =>
              have hc := HC5.out
              rw [if_pos q4] at hc
              subst hc
              clear q4
              go_wp2
              go_ret
              exact ⟨rfl, B8.out⟩
            | false =>
              have hc := HC5.out
              rw [if_neg (by simp [q4])] at hc
              have HC6 := hide hc
              clear hc q4
              go_wp2_with fail
              refine (containsS_any a0 n0 c0 f0 _ hn0 (V0.out.below B8.out (Nat.le_refl _))).mono ?_
              rintro e w9 ⟨rfl, hB9⟩
              have B9 := hide (B8.out.trans (hB9.mono B8.out.size))
              have R9 := hide (R8.out.below hB9 (Nat.le_refl _))
              have S9 := hide (S8.out.below hB9 (Nat.le_refl _))
              have k90 := (hB9.cell (p := ⟨w.heap.size, 0, none⟩) z8).trans k80
              have k91 := (hB9.cell (p := ⟨w.heap.size, 1, none⟩) z8).trans k81
              have z9 : w.heap.size < w9.heap.size := Nat.lt_of_lt_of_le z8 hB9.size
              clear hB9 k80 k81
              cases q5 : anyTo (fun i => longT (f0 i)) n0 with
              | true =>
                have hc := HC6.out
                rw [if_pos q5] at hc
                subst hc
                clear q5
                go_wp2
                go_ret
                exact ⟨rfl, B9.out⟩
              | false =>
                have hc := HC6.out
                rw [if_neg (by simp [q5])] at hc
                have HC7 := hide hc
                clear hc q5
                go_wp2_with fail
                refine (containsT_any a1 n1 c1 f1 _ hn1 HF.out (HT.out.below B9.out HT.out.1) (V1.out.below B9.out (Nat.le_refl _))).mono ?_
                rintro e w10 ⟨rfl, hB10⟩
                have B10 := hide (B9.out.trans (hB10.mono B9.out.size))
                have R10 := hide (R9.out.below hB10 (Nat.le_refl _))
                have S10 := hide (S9.out.below hB10 (Nat.le_refl _))
                have k100 := (hB10.cell (p := ⟨w.heap.size, 0, none⟩) z9).trans k90
                have k101 := (hB10.cell (p := ⟨w.heap.size, 1, none⟩) z9).trans k91
                have z10 : w.heap.size < w10.heap.size := Nat.lt_of_lt_of_le z9 hB10.size
                clear hB10 k90 k91
                cases q6 : anyTo (fun i => wrongA (f1 i)) n1 with
                | true =>
                  have hc := HC7.out
                  rw [if_pos q6] at hc
                  subst hc
                  clear q6
                  go_wp2
                  go_ret
                  exact ⟨rfl, B10.out⟩
                | false =>
                  have hc := HC7.out
                  rw [if_neg (by simp [q6])] at hc
                  subst hc
                  clear q6
                  go_wp2
                  go_ret
                  exact ⟨rfl, B10.out⟩
end Go.Proofs.YtkophfgkcijjkaaGreatDoor.Vp
namespace Go.Proofs.YtkophfgkcijjkaaGreatDoor.Vp
open Go.RowKit
theorem isIn_succ (g : Nat → ByteArray) (k : Nat) (t : ByteArray) : isIn g (k + 1) t = (isIn g k t || ((g k).toList == t.toList)) := by simp [isIn, List.range_succ]
theorem isIn_true {g : Nat → ByteArray} {k n : Nat} {t : ByteArray} (h : k < n) (hk : ((g k).toList == t.toList) = true) : isIn g n t = true := by
  simp only [isIn, List.any_eq_true, List.mem_range]
  exact ⟨k, h, hk⟩
set_option maxHeartbeats 1000000 in
theorem l2Target_row (a0 : Option Addr) (n0 c0 b off n1 c1 : Nat) (f1 : Nat → Target) (t : ByteArray) (w : World) (hn1 : (n1 : Int) ≤ 1048576) (hv1 : RowTarget w b off n1 f1) :
    Calls Tryz.prog 85 #[.agg #[.slice a0 n0 c0, .slice (some ⟨b, off, none⟩) n1 c1], .string t] w fun e w' => ∃ r : Int, e = .returned (.int .i64 r) ∧ decide (0 ≤ r) = isIn (nm1 f1) n1 t ∧ Below w.heap.size w w' := by
  have A0 := hide ((Below.refl w.heap.size w).alloc (Nat.le_refl _) (.cells #[.slice a0 n0 c0, .slice (some ⟨b, off, none⟩) n1 c1] 26))
  have V1 := hide (hv1.below A0.out (Nat.le_refl _))
  have k1 : (w.alloc (.cells #[.slice a0 n0 c0, .slice (some ⟨b, off, none⟩) n1 c1] 26)).cell? ⟨w.heap.size, 1, none⟩ = some (.slice (some ⟨b, off, none⟩) n1 c1) := by simp
  clear hv1
  go_enter Tryz.func85, Tryz.ntmps85
  go_wp2
  generalize w.alloc (.cells #[.slice a0 n0 c0, .slice (some ⟨b, off, none⟩) n1 c1] 26) = W at A0 V1 k1 ⊢
  go_loop [5] (fun i => ∃ k : Nat, k ≤ n1 ∧ i = .int .i64 k ∧ Hid (isIn (nm1 f1) k t = false)) (fun i => n1 - (intOf i).toNat)
  case atStart => exact ⟨0, by omega, rfl, rfl⟩
  case round =>
    obtain ⟨k, hk, rfl, HK⟩ := hrel
    by_cases hlt : k < n1
    · obtain ⟨d0, ka, kc, d1, _⟩ := V1.out.2 k hlt
      cases hb : ((f1 k).name.toList == t.toList) with
      | true =>
        have HB := hide hb
        go_wp2
        go_ret
        exact ⟨k, rfl, by rw [isIn_true (g := nm1 f1) hlt HB.out]; simp, A0.out⟩
      | false =>
        have HB := hide hb
        go_wp2
        exact ⟨⟨k + 1, by omega, by go_num, by show isIn (nm1 f1) (k + 1) t = false; rw [isIn_succ, HK.out]; exact HB.out⟩, by simp [intOf]; omega⟩
    · have e : k = n1 := by omega
      subst e
      go_wp2
      go_ret
      exact ⟨-1, rfl, by rw [HK.out]; rfl, A0.out⟩
end Go.Proofs.YtkophfgkcijjkaaGreatDoor.Vp
namespace Go.Proofs.YtkophfgkcijjkaaGreatDoor.Vp
open Go.RowKit
theorem bytes_eq {a b : ByteArray} (h : a.toList = b.toList) : a = b := by
  rw [ByteArray.toList_eq, ByteArray.toList_eq] at h
  exact ByteArray.ext (Array.toList_inj.1 h)
theorem bytes_beq {a b : ByteArray} (h : (a.toList == b.toList) = true) : a = b := bytes_eq (by simpa using h)
theorem asc_one {g : Nat → ByteArray} {n i j : Nat} {t : ByteArray} (hs : ascTo g n = true) (hi : i < n) (hj : j < n) (h1 : ((g i).toList == t.toList) = true) (h2 : ((g j).toList == t.toList) = true) : i = j := by
  have e1 := bytes_beq h1
  have e2 := bytes_beq h2
  rcases Nat.lt_trichotomy i j with h | h | h
  · have := asc_lt hs h hj
    rw [e1, e2, tless_irrefl] at this
    cases this
  · exact h
  · have := asc_lt hs h hi
    rw [e1, e2, tless_irrefl] at this
    cases this
theorem check_asc {n0 : Nat} {f0 : Nat → Source} {n1 : Nat} {f1 : Nat → Target} (h : checkC n0 f0 n1 f1 = 0) : ascTo (nm0 f0) n0 = true ∧ ascTo (nm1 f1) n1 = true ∧ n0 + n1 ≤ 200 := by
  unfold checkC at h
  split at h; · omega
  split at h; · omega
  split at h; · omega
  split at h; · omega
  split at h; · omega
  rename_i h0 _ _ h3 h4
  exact ⟨by simpa using h3, by simpa using h4, by omega⟩
end Go.Proofs.YtkophfgkcijjkaaGreatDoor.Vp
namespace Go.Proofs.YtkophfgkcijjkaaGreatDoor.Vp
open Go.RowKit
theorem slS {w : World} {a : Option Addr} {n : Nat} {f : Nat → Source} (h : SlSource w a n f) (hn : n ≠ 0) : ∃ b off, a = some ⟨b, off, none⟩ ∧ RowSource w b off n f := h.resolve_left hn
theorem slT {w : World} {a : Option Addr} {n : Nat} {f : Nat → Target} (h : SlTarget w a n f) (hn : n ≠ 0) : ∃ b off, a = some ⟨b, off, none⟩ ∧ RowTarget w b off n f := h.resolve_left hn
set_option maxHeartbeats 1000000 in
theorem l2Target_nil (a0 : Option Addr) (n0 c0 : Nat) (a1 : Option Addr) (c1 : Nat) (g : Nat → ByteArray) (t : ByteArray) (w : World) :
    Calls Tryz.prog 85 #[.agg #[.slice a0 n0 c0, .slice a1 0 c1], .string t] w fun e w' => ∃ r : Int, e = .returned (.int .i64 r) ∧ decide (0 ≤ r) = isIn g 0 t ∧ Below w.heap.size w w' := by
  have A0 := hide ((Below.refl w.heap.size w).alloc (Nat.le_refl _) (.cells #[.slice a0 n0 c0, .slice a1 0 c1] 26))
  go_enter Tryz.func85, Tryz.ntmps85
  go_wp2
  go_loop [5] (fun i => i = .int .i64 0) (fun _ => 0)
  case atStart => rfl
  case round =>
    subst hrel
    go_wp2
    go_ret
    exact ⟨-1, rfl, by rw [isIn_zero]; rfl, A0.out⟩
theorem l2Target_any (a0 : Option Addr) (n0 c0 : Nat) (a1 : Option Addr) (n1 c1 : Nat) (f1 : Nat → Target) (t : ByteArray) (w : World) (hn1 : (n1 : Int) ≤ 1048576) (hv1 : SlTarget w a1 n1 f1) :
    Calls Tryz.prog 85 #[.agg #[.slice a0 n0 c0, .slice a1 n1 c1], .string t] w fun e w' => ∃ r : Int, e = .returned (.int .i64 r) ∧ decide (0 ≤ r) = isIn (nm1 f1) n1 t ∧ Below w.heap.size w w' := by
  rcases hv1 with rfl | ⟨b, off, rfl, hr⟩
  · exact l2Target_nil a0 n0 c0 a1 c1 (nm1 f1) t w
  · exact l2Target_row a0 n0 c0 b off n1 c1 f1 t w hn1 hr
set_option maxRecDepth 100000 in
set_option maxHeartbeats 16000000 in
theorem specCheck_any (a0 : Option Addr) (n0 c0 : Nat) (f0 : Nat → Source) (a1 : Option Addr) (n1 c1 : Nat) (f1 : Nat → Target) (w : World) (hn0 : (n0 : Int) ≤ 1048576) (hn1 : (n1 : Int) ≤ 1048576) (hv0 : SlSource w a0 n0 f0) (hv1 : SlTarget w a1 n1 f1) (hfit : ∀ i, i < n1 → FitsTarget (f1 i)) (hs : ∀ i, i < n1 → ∀ j, j < (f1 i).actN → ((f1 i).act j).s.size ≤ maxLen) :
    Calls Tryz.prog 60 #[.agg #[.slice a0 n0 c0, .slice a1 n1 c1]] w fun e w' => e = .returned (.int .i64 (checkC n0 f0 n1 f1)) ∧ Below w.heap.size w w' := by
  have V0 := hide hv0
  have V1 := hide hv1
  have HF := hide hfit
  have HS := hide hs
  clear hv0 hv1 hfit hs
  obtain ⟨C, hC⟩ : ∃ C, C = checkC n0 f0 n1 f1 := ⟨_, rfl⟩
  rw [← hC]
  unfold checkC at hC
  have HC := hide hC
  clear hC
  have A0 := hide ((Below.refl w.heap.size w).alloc (Nat.le_refl _) (.cells #[.slice a0 n0 c0, .slice a1 n1 c1] 26))
  have k00 : (w.alloc (.cells #[.slice a0 n0 c0, .slice a1 n1 c1] 26)).cell? ⟨w.heap.size, 0, none⟩ = some (.slice a0 n0 c0) := by simp
  have k01 : (w.alloc (.cells #[.slice a0 n0 c0, .slice a1 n1 c1] 26)).cell? ⟨w.heap.size, 1, none⟩ = some (.slice a1 n1 c1) := by simp
  have z0 : w.heap.size < (w.alloc (.cells #[.slice a0 n0 c0, .slice a1 n1 c1] 26)).heap.size := by simp
  go_enter Tryz.func60, Tryz.ntmps60
  by_cases h1 : (200 : Int) < n0 + n1
  · have hc := HC.out
    rw [if_pos (by omega)] at hc
    subst hc
    go_wp2
    go_ret
    exact ⟨rfl, A0.out⟩
  have hc1 := HC.out
  rw [if_neg (by omega)] at hc1
  have HC1 := hide hc1
  clear hc1 HC
  go_wp2
  generalize w.alloc (.cells #[.slice a0 n0 c0, .slice a1 n1 c1] 26) = W0 at A0 k00 k01 z0 ⊢
  go_loopw [5] (fun i wr => ∃ k : Nat, k ≤ n0 ∧ i = .int .i64 k ∧ Hid (namesTo (nm0 f0) k = true) ∧ Below W0.heap.size W0 wr) (fun i _ => n0 - (intOf i).toNat)
  case atStart => exact ⟨0, by omega, rfl, rfl, Below.refl _ _⟩
  case round =>
    obtain ⟨k, hk, rfl, HK, hB⟩ := hrel
    have k10 := (hB.cell (p := ⟨w.heap.size, 0, none⟩) z0).trans k00
    have k11 := (hB.cell (p := ⟨w.heap.size, 1, none⟩) z0).trans k01
    have z1 : w.heap.size < wr.heap.size := Nat.lt_of_lt_of_le z0 hB.size
    have HB := hide hB
    have A1 := hide (A0.out.trans (hB.mono A0.out.size))
    clear hB
    by_cases hlt : k < n0
    · obtain ⟨b, off, rfl, hr⟩ := slS V0.out (by omega)
      obtain ⟨d0, d1⟩ := (hr.2 k hlt).below A1.out hr.1
      clear hr k00 k01
      go_wp2_with fail
      refine (l1NameOk_any _ _).mono ?_
      rintro e w1 ⟨rfl, hB1⟩
      have B1 := hide (HB.out.trans (hB1.mono HB.out.size))
      clear hB1
      cases hq : nameOk (f0 k).name with
      | true =>
        have HQ := hide hq
        clear hq
        go_wp2
        exact ⟨⟨k + 1, by omega, by go_num, by show namesTo (nm0 f0) (k + 1) = true; simp [namesTo, HK.out, HQ.out], B1.out⟩, by simp [intOf]; omega⟩
      | false =>
        have HQ := hide hq
        have hc := HC1.out
        rw [if_pos (namesTo_false (g := (nm0 f0)) hlt HQ.out)] at hc
        subst hc
        clear hq
        go_wp2
        go_ret
        exact ⟨rfl, A0.out.trans (B1.out.mono A0.out.size)⟩
    · have e : n0 = k := by omega
      subst e
      have hc := HC1.out
      rw [if_neg (by simp [HK.out])] at hc
      have HC2 := hide hc
      clear hc HC1 HK HB k00 k01
      go_wp2
      generalize wr = W1 at k10 k11 z1 A1 ⊢
      go_loopw [6] (fun i wr => ∃ k : Nat, k ≤ n1 ∧ i = .int .i64 k ∧ Hid (namesTo (nm1 f1) k = true) ∧ Below W1.heap.size W1 wr) (fun i _ => n1 - (intOf i).toNat)
      case atStart => exact ⟨0, by omega, rfl, rfl, Below.refl _ _⟩
      case round =>
        obtain ⟨k, hk, rfl, HK, hB⟩ := hrel
        have k20 := (hB.cell (p := ⟨w.heap.size, 0, none⟩) z1).trans k10
        have k21 := (hB.cell (p := ⟨w.heap.size, 1, none⟩) z1).trans k11
        have z2 : w.heap.size < wr.heap.size := Nat.lt_of_lt_of_le z1 hB.size
        have HB := hide hB
        have A2 := hide (A1.out.trans (hB.mono A1.out.size))
        clear hB
        by_cases hlt : k < n1
        · obtain ⟨b, off, rfl, hr⟩ := slT V1.out (by omega)
          obtain ⟨d0, ka, kc, d1, _⟩ := (hr.2 k hlt).below A2.out (Nat.le_refl _) hr.1
          clear hr k10 k11
          go_wp2_with fail
          refine (l1NameOk_any _ _).mono ?_
          rintro e w1 ⟨rfl, hB1⟩
          have B1 := hide (HB.out.trans (hB1.mono HB.out.size))
          clear hB1
          cases hq : nameOk (f1 k).name with
          | true =>
            have HQ := hide hq
            clear hq
            go_wp2
            exact ⟨⟨k + 1, by omega, by go_num, by show namesTo (nm1 f1) (k + 1) = true; simp [namesTo, HK.out, HQ.out], B1.out⟩, by simp [intOf]; omega⟩
          | false =>
            have HQ := hide hq
            have hc := HC2.out
            rw [if_pos (namesTo_false (g := (nm1 f1)) hlt HQ.out)] at hc
            subst hc
            clear hq
            go_wp2
            go_ret
            exact ⟨rfl, A1.out.trans (B1.out.mono A1.out.size)⟩
        · have e : n1 = k := by omega
          subst e
          have hc := HC2.out
          rw [if_neg (by simp [HK.out])] at hc
          have HC3 := hide hc
          clear hc HC2 HK HB k10 k11
          go_wp2
          generalize wr = W2 at k20 k21 z2 A2 ⊢
          go_loopw [7] (fun i wr => ∃ k : Nat, (k + 1 ≤ n0 ∨ k = 0) ∧ i = .int .i64 ((k : Int) + 1) ∧ Hid (ascTo (nm0 f0) (k + 1) = true) ∧ Below W2.heap.size W2 wr) (fun i _ => n0 + 1 - (intOf i).toNat)
          case atStart => exact ⟨0, .inr rfl, rfl, rfl, Below.refl _ _⟩
          case round =>
            obtain ⟨k, hk, rfl, HK, hB⟩ := hrel
            have k30 := (hB.cell (p := ⟨w.heap.size, 0, none⟩) z2).trans k20
            have k31 := (hB.cell (p := ⟨w.heap.size, 1, none⟩) z2).trans k21
            have z3 : w.heap.size < wr.heap.size := Nat.lt_of_lt_of_le z2 hB.size
            have HB := hide hB
            have A3 := hide (A2.out.trans (hB.mono A2.out.size))
            clear hB
            by_cases hlt : k + 1 < n0
            · obtain ⟨b, off, rfl, hr⟩ := slS V0.out (by omega)
              obtain ⟨d0, d1⟩ := (hr.2 k (by omega)).below A3.out hr.1
              obtain ⟨e0, e1⟩ := (hr.2 (k + 1) hlt).below A3.out hr.1
              have hlt' : (k : Int) + 1 < n0 := by omega
              clear hr k20 k21
              go_wp2_with fail
              go_quiet (fail)
              have B1 := hide (below_drewN HB.out nq)
              clear d0 d1 e0 e1
              generalize wr.drewN nq = X at B1 ⊢
              cases hq : Op.bytesLess (f0 k).name.toList (f0 (k + 1)).name.toList with
              | true =>
                have HQ := hide hq
                clear hq
                go_wp2
                exact ⟨⟨k + 1, .inl (by omega), by go_num, by show ascTo (nm0 f0) (k + 2) = true; simp [ascTo, HK.out, HQ.out], B1.out⟩, by simp [intOf]; omega⟩
              | false =>
                have HQ := hide hq
                have hc := HC3.out
                rw [if_pos (ascTo_false (g := (nm0 f0)) hlt HQ.out)] at hc
                subst hc
                clear hq
                go_wp2
                go_ret
                exact ⟨rfl, A2.out.trans (B1.out.mono A2.out.size)⟩
            · have hge : ¬ (k : Int) + 1 < n0 := by omega
              have hc := HC3.out
              rw [if_neg (by simp [ascTo_mono (show n0 ≤ k + 1 by omega) HK.out])] at hc
              have HC4 := hide hc
              clear hc HC3 HK HB k20 k21
              go_wp2
              generalize wr = W3 at k30 k31 z3 A3 ⊢
              go_loopw [8] (fun i wr => ∃ k : Nat, (k + 1 ≤ n1 ∨ k = 0) ∧ i = .int .i64 ((k : Int) + 1) ∧ Hid (ascTo (nm1 f1) (k + 1) = true) ∧ Below W3.heap.size W3 wr) (fun i _ => n1 + 1 - (intOf i).toNat)
              case atStart => exact ⟨0, .inr rfl, rfl, rfl, Below.refl _ _⟩
              case round =>
                obtain ⟨k, hk, rfl, HK, hB⟩ := hrel
                have k40 := (hB.cell (p := ⟨w.heap.size, 0, none⟩) z3).trans k30
                have k41 := (hB.cell (p := ⟨w.heap.size, 1, none⟩) z3).trans k31
                have z4 : w.heap.size < wr.heap.size := Nat.lt_of_lt_of_le z3 hB.size
                have HB := hide hB
                have A4 := hide (A3.out.trans (hB.mono A3.out.size))
                clear hB
                by_cases hlt : k + 1 < n1
                · obtain ⟨b, off, rfl, hr⟩ := slT V1.out (by omega)
                  obtain ⟨d0, ka, kc, d1, _⟩ := (hr.2 k (by omega)).below A4.out (Nat.le_refl _) hr.1
                  obtain ⟨e0, kb, kd, e1, _⟩ := (hr.2 (k + 1) hlt).below A4.out (Nat.le_refl _) hr.1
                  have hlt' : (k : Int) + 1 < n1 := by omega
                  clear hr k30 k31
                  go_wp2_with fail
                  go_quiet (fail)
                  have B1 := hide (below_drewN HB.out nq)
                  clear d0 d1 e0 e1
                  generalize wr.drewN nq = X at B1 ⊢
                  cases hq : Op.bytesLess (f1 k).name.toList (f1 (k + 1)).name.toList with
                  | true =>
                    have HQ := hide hq
                    clear hq
                    go_wp2
                    exact ⟨⟨k + 1, .inl (by omega), by go_num, by show ascTo (nm1 f1) (k + 2) = true; simp [ascTo, HK.out, HQ.out], B1.out⟩, by simp [intOf]; omega⟩
                  | false =>
                    have HQ := hide hq
                    have hc := HC4.out
                    rw [if_pos (ascTo_false (g := (nm1 f1)) hlt HQ.out)] at hc
                    subst hc
                    clear hq
                    go_wp2
                    go_ret
                    exact ⟨rfl, A3.out.trans (B1.out.mono A3.out.size)⟩
                · have hge : ¬ (k : Int) + 1 < n1 := by omega
                  have hc := HC4.out
                  rw [if_neg (by simp [ascTo_mono (show n1 ≤ k + 1 by omega) HK.out])] at hc
                  have HC5 := hide hc
                  clear hc HC4 HK HB k30 k31
                  go_wp2
                  generalize wr = W4 at k40 k41 z4 A4 ⊢
                  go_loopw [9] (fun i wr => ∃ k : Nat, k ≤ n0 ∧ i = .int .i64 k ∧ Hid (anyTo (fun i => isIn (nm1 f1) n1 (nm0 f0 i)) k = false) ∧ Below W4.heap.size W4 wr) (fun i _ => n0 - (intOf i).toNat)
                  case atStart => exact ⟨0, by omega, rfl, rfl, Below.refl _ _⟩
                  case round =>
                    obtain ⟨k, hk, rfl, HK, hB⟩ := hrel
                    have k50 := (hB.cell (p := ⟨w.heap.size, 0, none⟩) z4).trans k40
                    have k51 := (hB.cell (p := ⟨w.heap.size, 1, none⟩) z4).trans k41
                    have z5 : w.heap.size < wr.heap.size := Nat.lt_of_lt_of_le z4 hB.size
                    have HB := hide hB
                    have A5 := hide (A4.out.trans (hB.mono A4.out.size))
                    clear hB
                    by_cases hlt : k < n0
                    · obtain ⟨b, off, rfl, hr⟩ := slS V0.out (by omega)
                      obtain ⟨d0, d1⟩ := (hr.2 k hlt).below A5.out hr.1
                      clear hr k40 k41
                      go_wp2_with fail
                      go_region_with (go_at_call 85; refine (l2Target_any (some ⟨b, off, none⟩) n0 c0 a1 n1 c1 f1 (f0 k).name _ hn1 ?_).mono ?_; (first | exact V1.out.below A5.out (Nat.le_refl _) | exact V1.out.below A5.out.drew (Nat.le_refl _)); rintro e w1 ⟨r, rfl, hd, hB1⟩; have HD := hide hd; clear hd; have B1 : Hid (Below wr.heap.size wr w1) := ⟨hB1.os, hB1.tape, hB1.output, hB1.size, hB1.block⟩; clear hB1)
                      all_goals
                        have B2 := hide (HB.out.trans (B1.out.mono HB.out.size))
                        clear d0 d1 B1
                        by_cases hq : 0 ≤ r
                        · have hc := HC5.out
                          rw [if_pos (anyTo_true hlt (by have := HD.out; rw [decide_eq_true hq] at this; exact this.symm))] at hc
                          subst hc
                          go_wp2
                          go_ret
                          exact ⟨rfl, A4.out.trans (B2.out.mono A4.out.size)⟩
                        · have HQ := hide hq
                          go_wp2
                          exact ⟨⟨k + 1, by omega, by go_num, by show anyTo _ (k + 1) = false; have := HD.out; rw [decide_eq_false HQ.out] at this; simp [anyTo, HK.out, ← this], B2.out⟩, by simp [intOf]; omega⟩
                    · have e : n0 = k := by omega
                      subst e
                      have hc := HC5.out
                      rw [if_neg (by simp [HK.out])] at hc
                      have HC6 := hide hc
                      clear hc HC5 HK HB k40 k41
                      go_wp2
                      generalize wr = W5 at k50 k51 z5 A5 ⊢
                      go_loopw [10] (fun i wr => ∃ k : Nat, k ≤ n0 ∧ i = .int .i64 k ∧ Hid (anyTo (fun i => longT (f0 i)) k = false) ∧ Below W5.heap.size W5 wr) (fun i _ => n0 - (intOf i).toNat)
                      case atStart => exact ⟨0, by omega, rfl, rfl, Below.refl _ _⟩
                      case round =>
                        obtain ⟨k, hk, rfl, HK, hB⟩ := hrel
                        have k60 := (hB.cell (p := ⟨w.heap.size, 0, none⟩) z5).trans k50
                        have k61 := (hB.cell (p := ⟨w.heap.size, 1, none⟩) z5).trans k51
                        have z6 : w.heap.size < wr.heap.size := Nat.lt_of_lt_of_le z5 hB.size
                        have HB := hide hB
                        have A6 := hide (A5.out.trans (hB.mono A5.out.size))
                        clear hB
                        by_cases hlt : k < n0
                        · obtain ⟨b, off, rfl, hr⟩ := slS V0.out (by omega)
                          obtain ⟨d0, d1⟩ := (hr.2 k hlt).below A6.out hr.1
                          clear hr k50 k51
                          by_cases hq : (2000 : Int) < (f0 k).text.size
                          · have hc := HC6.out
                            rw [if_pos (anyTo_true hlt (by simpa [longT] using hq))] at hc
                            subst hc
                            go_wp2
                            go_ret
                            exact ⟨rfl, A5.out.trans (HB.out.mono A5.out.size)⟩
                          · have HQ : Hid (longT (f0 k) = false) := decide_eq_false hq
                            go_wp2
                            exact ⟨⟨k + 1, by omega, by go_num, by show anyTo _ (k + 1) = false; simp [anyTo, HK.out, HQ.out], HB.out⟩, by simp [intOf]; omega⟩
                        · have e : n0 = k := by omega
                          subst e
                          have hc := HC6.out
                          rw [if_neg (by simp [HK.out])] at hc
                          have HC7 := hide hc
                          clear hc HC6 HK HB k50 k51
                          go_wp2
                          generalize wr = W6 at k60 k61 z6 A6 ⊢
                          go_loopw [11, 4] (fun i v wr => ∃ (k : Nat) (r : Int), k ≤ n1 ∧ i = .int .i64 k ∧ v = .int .i64 r ∧ Hid (r = if anyTo (fun i => wrongA (f1 i)) k = true then 7 else 0) ∧ Below W6.heap.size W6 wr) (fun i _ _ => n1 - (intOf i).toNat)
                          case atStart => exact ⟨0, 0, by omega, rfl, rfl, rfl, Below.refl _ _⟩
                          case round =>
                            obtain ⟨k, r, hk, rfl, rfl, HK, hB⟩ := hrel
                            have k70 := (hB.cell (p := ⟨w.heap.size, 0, none⟩) z6).trans k60
                            have k71 := (hB.cell (p := ⟨w.heap.size, 1, none⟩) z6).trans k61
                            have z7 : w.heap.size < wr.heap.size := Nat.lt_of_lt_of_le z6 hB.size
                            have HB := hide hB
                            have A7 := hide (A6.out.trans (hB.mono A6.out.size))
                            clear hB
                            by_cases hlt : k < n1
                            · obtain ⟨b, off, rfl, hr⟩ := slT V1.out (by omega)
                              obtain ⟨d0, ka, kc, d1, hx⟩ := (hr.2 k hlt).below A7.out (Nat.le_refl _) hr.1
                              have HX := hide hx
                              clear hr hx k60 k61
                              go_wp2_with fail
                              refine (specValid_sl ka (f1 k).actN kc (f1 k).act _ (HF.out k hlt) HX.out (HS.out k hlt)).mono ?_
                              rintro e w1 ⟨rfl, hB1⟩
                              have B1 := hide (HB.out.trans (hB1.mono HB.out.size))
                              clear hB1 d0 d1
                              cases hq : valid (f1 k).act (f1 k).actN with
                              | true =>
                                have HQ := hide hq
                                clear hq
                                have E : Hid (anyTo (fun i => wrongA (f1 i)) (k + 1) = anyTo (fun i => wrongA (f1 i)) k) := by show (anyTo _ k || wrongA (f1 k)) = _; rw [show wrongA (f1 k) = false by unfold wrongA; rw [HQ.out]; rfl, Bool.or_false]
                                go_wp2
                                exact ⟨⟨k + 1, r, by omega, by go_num, rfl, by show r = _; rw [E.out]; exact HK.out, B1.out⟩, by simp [intOf]; omega⟩
                              | false =>
                                have HQ := hide hq
                                clear hq
                                have E : Hid (anyTo (fun i => wrongA (f1 i)) (k + 1) = true) := by show (anyTo _ k || wrongA (f1 k)) = _; rw [show wrongA (f1 k) = true by unfold wrongA; rw [HQ.out]; rfl, Bool.or_true]
                                go_wp2
                                exact ⟨⟨k + 1, 7, by omega, by go_num, rfl, by show (7 : Int) = _; rw [if_pos E.out], B1.out⟩, by simp [intOf]; omega⟩
                            · have e : n1 = k := by omega
                              subst e
                              have hc := HC7.out
                              rw [← HK.out] at hc
                              subst hc
                              go_wp2
                              go_ret
                              exact ⟨rfl, A6.out.trans (HB.out.mono A6.out.size)⟩
end Go.Proofs.YtkophfgkcijjkaaGreatDoor.Vp
