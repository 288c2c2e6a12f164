/-
  Put together of: DeSpecA, DeSpec.
-/
import Derived.Test.YtkgddbcjmejfaaaDoorZP
import Derived.Test.YtkgddbcjmejfaaaDoorZL

/-
  spec: Depends: what stands at each step.
-/
namespace Go.Proofs.YtkgddbcjmejfaaaDoor.Vp
open Go.RowKit Go.Sort

theorem infoBool2 : (Tryd.prog.info? 4).map (fun i => (i.zero, i.size, i.bytes)) = some (some (.bool false), 1, 1) := by kernel_rfl
/-- a row of bools. -/
def RowB (w : World) (g n : Nat) (D : Nat → Bool) : Prop := w.rowIs g 4 n (fun j => .bool (D j))
theorem mkBool2 (n : Nat) (hn : n ≤ 1048576) (w : World) : (Instr.makeSlice 69 (.int .i64 (n : Int)) (.int .i64 (n : Int))).run Tryd.prog w = .ok (.slice (some ⟨w.heap.size, 0, none⟩) n n) (w.alloc (.cells (madeCells #[.bool false] n) 4)) :=
  run_make_row' 69 4 (.bool false) 1 Tryd.underlying69 infoBool2 rfl .i64 .i64 n (by omega) (by omega) w
theorem RowB.cell {w : World} {g n : Nat} {D : Nat → Bool} (h : RowB w g n D) {i : Nat} (hi : i < n) : w.cell? ⟨g, i, none⟩ = some (.bool (D i)) := World.rowIs.cell h hi
theorem RowB.frozen {w : World} {g n : Nat} {D : Nat → Bool} (h : RowB w g n D) (i : Nat) : w.frozen? ⟨g, i, none⟩ = false := World.rowIs.frozen h i
theorem RowB.lt {w : World} {g n : Nat} {D : Nat → Bool} (h : RowB w g n D) : g < w.heap.size := World.rowIs.lt h
theorem RowB.below {w w' : World} {g n B : Nat} {D : Nat → Bool} (h : RowB w g n D) (hb : Below B w w') (hB : w.heap.size ≤ B) : RowB w' g n D := World.rowIs.of_block h (hb.block g (Nat.lt_of_lt_of_le h.lt hB))
theorem RowB.set {w : World} {g n : Nat} {D : Nat → Bool} (h : RowB w g n D) (i : Nat) (v : Bool) : RowB (w.setCell ⟨g, i, none⟩ (.bool v)) g n (fun j => if j = i then v else D j) :=
  (World.rowIs.set h i (.bool v)).congr fun j _ => by by_cases e : j = i <;> simp [e]
theorem RowB.congr {w : World} {g n : Nat} {D E : Nat → Bool} (h : RowB w g n D) (e : ∀ j, j < n → D j = E j) : RowB w g n E := World.rowIs.congr h fun j hj => by rw [e j hj]
/-- a row of texts is not touched by a store into a row of bools. -/
theorem RowStr.bools {w : World} {g n b off m : Nat} {D : Nat → Bool} {F : Nat → ByteArray} (h : RowStr w b off m F) (hg : RowB w g n D) (p : Addr) (hp : p.block = g) (v : Value) : RowStr (w.setCell p v) b off m F := by
  refine ⟨by simpa using h.1, fun i hi => ?_⟩
  have hc := h.2 i hi
  by_cases e : b = g
  · subst e
    obtain ⟨c, hb, hn, hcs⟩ := hg
    have h2 : w.cell? ⟨b, off + i, none⟩ = c[off + i]? := by simp [World.cell?, hb]
    rw [hc] at h2
    rcases Nat.lt_or_ge (off + i) n with h3 | h3
    · rw [hcs _ h3] at h2
      simp at h2
    · rw [Array.getElem?_eq_none (by omega)] at h2
      simp at h2
  · exact (World.cell?_of_block (w := w) (a := ⟨b, off + i, none⟩) (Below.heap_setCell w p v b (fun e2 => e (e2.trans hp)))).trans hc

def passM : Value → Value → Nat
  | .slice _ m _, .bool true => if m = 0 then 2 else 1
  | _, _ => 0
theorem lput_ne (l : List (List UInt8)) (x : List UInt8) : (lput l x).length ≠ 0 := by
  have h := (mem_lput l x x).2 (.inr rfl)
  intro e
  rw [List.length_eq_zero_iff] at e
  rw [e] at h
  simp at h

section
variable (f : Nat → Deed) (t : ByteArray) (n : Nat)
/-- what stands in the row of bools behind the first k deeds; ph: nothing is left to be found. -/
def inD (ph : Bool) (k : Nat) (x : Nat) : Bool := depIn f t n x && (ph || decide (x < k))
/-- .. behind j links of deed k. -/
def cV (ph : Bool) (k j : Nat) : Bool := if ph = true then depIn f t n k else depLk (depIn f t n) t (f k) j
def inJ (ph : Bool) (k j : Nat) (x : Nat) : Bool := if x = k then cV f t n ph k j else inD f t n ph k x
def outK (ph : Bool) (k : Nat) : List (List UInt8) := if ph = true then depL f t n else depL f t k
def outJ (ph : Bool) (k j : Nat) : List (List UInt8) := if ph = true then depL f t n else if depLk (depIn f t n) t (f k) j = true then lput (depL f t k) (f k).name.toList else depL f t k
end
variable {f : Nat → Deed} {t : ByteArray} {n : Nat}
theorem inJ_zero {ph : Bool} {k : Nat} : ∀ x, inD f t n ph k x = inJ f t n ph k 0 x := by
  intro x
  unfold inJ
  split
  · rename_i e
    subst e
    cases ph <;> simp [inD, cV, depLk]
  · rfl
theorem outJ_zero {ph : Bool} {k : Nat} : outK f t n ph k = outJ f t n ph k 0 := by cases ph <;> simp [outK, outJ, depLk]
theorem depLk_end {k : Nat} (hk : k < n) (ha : ∀ j, j < (f k).linksN → ((f k).links j).ask = true → ((f k).links j).at_.toNat < k) : depLk (depIn f t n) t (f k) (f k).linksN = depIn f t n k := by
  rw [depIn_stay (show k < k + 1 by omega) (show k + 1 ≤ n by omega), depIn_self]
  exact depLk_congr ha fun i hi => depIn_stay hi (by omega)
theorem inJ_end {ph : Bool} {k : Nat} (hk : k < n) (ha : ∀ j, j < (f k).linksN → ((f k).links j).ask = true → ((f k).links j).at_.toNat < k) : ∀ x, inJ f t n ph k (f k).linksN x = inD f t n ph (k + 1) x := by
  intro x
  have hc : cV f t n ph k (f k).linksN = depIn f t n k := by
    unfold cV
    split
    · rfl
    · exact depLk_end hk ha
  unfold inJ inD
  split
  · rename_i e
    subst e
    rw [hc]
    simp
  · have : decide (x < k) = decide (x < k + 1) := by simp only [decide_eq_decide]; omega
    rw [this]
theorem outJ_end {ph : Bool} {k : Nat} (hk : k < n) (ha : ∀ j, j < (f k).linksN → ((f k).links j).ask = true → ((f k).links j).at_.toNat < k) : outJ f t n ph k (f k).linksN = outK f t n ph (k + 1) := by
  unfold outJ outK
  rw [depLk_end hk ha, depL, depIn_stay (show k < k + 1 by omega) (show k + 1 ≤ n by omega)]
theorem cV_stay {ph : Bool} {k j : Nat} (h : cV f t n ph k j = true) : cV f t n ph k (j + 1) = true ∧ outJ f t n ph k (j + 1) = outJ f t n ph k j := by
  unfold cV at h ⊢
  unfold outJ
  cases ph with
  | true => exact ⟨by simpa using h, rfl⟩
  | false =>
    simp only [Bool.false_eq_true, if_false] at h ⊢
    have h2 : depLk (depIn f t n) t (f k) (j + 1) = true := by rw [depLk, h, Bool.true_or]
    rw [h2, h]
    simp
theorem cV_no {ph : Bool} {k j : Nat} (h : cV f t n ph k j = false) (hc : depC (depIn f t n) t ((f k).links j) = false) : cV f t n ph k (j + 1) = false ∧ outJ f t n ph k (j + 1) = outJ f t n ph k j := by
  unfold cV at h ⊢
  unfold outJ
  cases ph with
  | true => exact ⟨by simpa using h, rfl⟩
  | false =>
    simp only [Bool.false_eq_true, if_false] at h ⊢
    have h2 : depLk (depIn f t n) t (f k) (j + 1) = false := by rw [depLk, h, hc]; rfl
    rw [h2, h]
    simp
theorem cV_put {ph : Bool} {k j : Nat} (hk : k < n) (hj : j < (f k).linksN) (ha : ∀ j, j < (f k).linksN → ((f k).links j).ask = true → ((f k).links j).at_.toNat < k) (h : cV f t n ph k j = false) (hc : depC (depIn f t n) t ((f k).links j) = true) :
    ph = false ∧ cV f t n ph k (j + 1) = true ∧ outJ f t n ph k j = depL f t k ∧ outJ f t n ph k (j + 1) = lput (depL f t k) (f k).name.toList := by
  have hph : ph = false := by
    cases ph with
    | false => rfl
    | true =>
      have h1 : depIn f t n k = false := by simpa [cV] using h
      rw [← depLk_end hk ha] at h1
      have := depLk_none h1 j hj
      rw [hc] at this
      simp at this
  subst hph
  have h1 : depLk (depIn f t n) t (f k) j = false := by simpa [cV] using h
  have h2 : depLk (depIn f t n) t (f k) (j + 1) = true := by rw [depLk, hc, Bool.or_true]
  exact ⟨rfl, by simp [cV, h2], by simp [outJ, h1], by simp [outJ, h2]⟩
theorem inJ_same {ph : Bool} {k j : Nat} (h : cV f t n ph k (j + 1) = cV f t n ph k j) : ∀ x, inJ f t n ph k j x = inJ f t n ph k (j + 1) x := by
  intro x
  unfold inJ
  split
  · exact h.symm
  · rfl
theorem inJ_set {ph : Bool} {k j : Nat} (h : cV f t n ph k (j + 1) = true) : ∀ x, (if x = k then true else inJ f t n ph k j x) = inJ f t n ph k (j + 1) x := by
  intro x
  unfold inJ
  split
  · exact h.symm
  · rename_i e
    rfl
theorem inJ_at {ph : Bool} {k j p : Nat} (hp : p < k) : inJ f t n ph k j p = depIn f t n p := by
  unfold inJ inD
  rw [if_neg (by omega)]
  simp [hp]
theorem inJ_here {ph : Bool} {k j : Nat} : inJ f t n ph k j k = cV f t n ph k j := by simp [inJ]

theorem passM_lt {v v' : Value} {p : Option Addr} {m c : Nat} {p' : Option Addr} {m' c' : Nat} {again : Bool} (hv : v = .slice p m c) (hv' : v' = .slice p' m' c') (h : again = true → m = 0 ∧ m' ≠ 0) : passM v' (.bool again) < passM v (.bool true) := by
  subst hv hv'
  cases again with
  | false => simp only [passM]; split <;> omega
  | true =>
    obtain ⟨h1, h2⟩ := h rfl
    simp [passM, h1, h2]

end Go.Proofs.YtkgddbcjmejfaaaDoor.Vp

/-
  spec: Depends.
-/
namespace Go.Proofs.YtkgddbcjmejfaaaDoor.Vp
open Go.RowKit Go.Sort

set_option maxRecDepth 100000 in
set_option maxHeartbeats 8000000 in
theorem specDepends_any (a : Option Addr) (n cap : Nat) (f : Nat → Deed) (t : ByteArray) (w : World) (hn : (n : Int) ≤ 1048576) (hv : SlDeed w a n f) (hfit : ∀ i, i < n → FitsDeed (f i)) (hsz : ∀ i, i < n → SizedDeed (f i)) :
    Calls Tryd.prog 18 #[.agg #[.slice a n cap], .string t] w fun e w' => ∃ b off m c : Nat, e = .returned (.slice (some ⟨b, off, none⟩) m c) ∧ m = (deps f n t).length ∧ RowStr w' b off m (nmF (deps f n t)) ∧ Below w.heap.size w w' := by
  have HV := hide hv
  have HM := hide hfit
  have HZ := hide hsz
  clear hv hfit hsz
  have A0 := hide (((Below.refl w.heap.size w).alloc (Nat.le_refl _) (.cells #[.slice a n cap] 30)).alloc (by simp) (.cells #[] 9))
  have k0 : ((w.alloc (.cells #[.slice a n cap] 30)).alloc (.cells #[] 9)).cell? ⟨w.heap.size, 0, none⟩ = some (.slice a n cap) := by simp
  have E0 := hide (show RowStr ((w.alloc (.cells #[.slice a n cap] 30)).alloc (.cells #[] 9)) (w.heap.size + 1) 0 0 (nmF []) from ⟨by simp, fun i hi => absurd hi (Nat.not_lt_zero _)⟩)
  obtain ⟨T, hT⟩ : ∃ T, T = deps f n t := ⟨_, rfl⟩
  rw [← hT]
  have HE := hide (show T = if accOk f n = true then depL f t n else [] from hT)
  clear hT
  go_enter Tryd.func18, Tryd.ntmps18
  go_wp2_with fail
  generalize (w.alloc (.cells #[.slice a n cap] 30)).alloc (.cells #[] 9) = W at A0 k0 E0 ⊢
  have hz : w.heap.size < W.heap.size := by have := E0.out.1; omega
  refine (l3Ok_any a n cap f _ hn (HV.out.below A0.out (Nat.le_refl _)) HM.out HZ.out).mono ?_
  rintro e w1 ⟨rfl, hB⟩
  have B1 := hide (A0.out.trans (hB.mono A0.out.size))
  have E1 := hide (E0.out.below hB (Nat.le_refl _))
  have k1 := (hB.cell (p := ⟨w.heap.size, 0, none⟩) hz).trans k0
  have hz1 : w.heap.size < w1.heap.size := Nat.lt_of_lt_of_le hz hB.size
  clear hB A0 E0 k0 hz
  have HO := hide (fun h : accOk f n = true => (⟨accOk_n h, accOk_links h, accOk_ask h⟩ : (1 ≤ n ∧ n ≤ 400 ∧ firstNo (deedOk f) n = -1) ∧ (∀ p, p < n → (f p).linksN ≤ 200) ∧ ∀ p, p < n → ∀ j, j < (f p).linksN → ((f p).links j).ask = true → 0 ≤ ((f p).links j).at_ ∧ ((f p).links j).at_.toNat < p ∧ (f ((f p).links j).at_.toNat).name.toList = ((f p).links j).name.toList))
  generalize accOk f n = r at HE HO ⊢
  cases r with
  | false =>
    obtain rfl : T = [] := HE.out
    go_wp2
    go_ret
    exact ⟨w.heap.size + 1, 0, 0, 0, rfl, rfl, E1.out, B1.out⟩
  | true =>
    obtain rfl : T = depL f t n := HE.out
    obtain ⟨⟨hn1, hn4, -⟩, hl, hask⟩ := HO.out rfl
    have HLK := hide hl
    have HA := hide hask
    have HA2 := hide (fun p (hp : p < n) j (hj : j < (f p).linksN) (h : ((f p).links j).ask = true) => (hask p hp j hj h).2.1)
    clear hl hask HE HO HM
    obtain ⟨b, off, rfl, hrow⟩ := HV.out.resolve_left (by omega)
    have HR := hide hrow
    clear HV hrow
    have hmk := mkBool2 n (by omega)
    have R0 := hide (show RowB (w1.alloc (.cells (madeCells #[.bool false] n) 4)) w1.heap.size n (inD f t n false 0) from (World.rowIs_made w1 (.bool false) n 4).congr fun j _ => by simp [inD])
    have A1 := hide ((Below.refl w1.heap.size w1).alloc (Nat.le_refl _) (.cells (madeCells #[.bool false] n) 4))
    go_wp2
    clear hmk
    have hbb : w1.heap.size = w1.heap.size := rfl
    generalize w1.alloc (.cells (madeCells #[.bool false] n) 4) = W1 at R0 A1 ⊢
    obtain ⟨g, hg⟩ : ∃ g, g = w1.heap.size := ⟨_, rfl⟩
    rw [← hg] at R0 ⊢
    have HG := hide hg
    clear hg hbb
    go_loopw [5, 7] (fun v ag wr => ∃ (ph again : Bool) (b' off' m c' : Nat), ag = .bool again ∧ v = .slice (some ⟨b', off', none⟩) m c' ∧ Hid (m = (outK f t n ph 0).length) ∧ m ≤ c' ∧ Hid (RowStr wr b' off' m (nmF (outK f t n ph 0))) ∧ Hid (RowB wr g n (inD f t n ph 0)) ∧ (ph = false → again = true) ∧ (ph = true → again = true → m ≠ 0) ∧ Hid (Below w1.heap.size w1 wr)) (fun v ag _ => passM v ag)
    case atStart => exact ⟨false, true, w.heap.size + 1, 0, 0, 0, rfl, rfl, by show 0 = _; simp [outK, depL], by omega, by show RowStr _ _ _ _ _; simp [outK, depL]; exact E1.out.below A1.out (Nat.le_refl _), R0.out, fun _ => rfl, (fun h => by cases h), A1.out⟩
    case round =>
      obtain ⟨ph, again, b', off', m, c', rfl, rfl, HM, hmc, HK, HRB, hp1, hp2, HB⟩ := hrel
      have k2 := (HB.out.cell (p := ⟨w.heap.size, 0, none⟩) hz1).trans k1
      cases again with
      | false =>
        obtain rfl : ph = true := by cases ph with | true => rfl | false => simp at hp1
        clear hp1 hp2
        go_wp2
        go_ret
        exact ⟨b', off', m, c', rfl, HM.out, HK.out, B1.out.trans (HB.out.mono B1.out.size)⟩
      | true =>
        obtain ⟨PV, hPV⟩ : ∃ PV, PV = Value.slice (some ⟨b', off', none⟩) m c' := ⟨_, rfl⟩
        have HPV := hide hPV
        have HP1 := hide hp1
        have HP2 := hide hp2
        clear hp1 hp2 hPV
        go_wp2
        clear k2
        go_loopw [5, 7, 8] (fun v ag i w2 => ∃ (k : Nat) (again : Bool) (b' off' m' c' : Nat), k ≤ n ∧ i = .int .i64 k ∧ ag = .bool again ∧ v = .slice (some ⟨b', off', none⟩) m' c' ∧ Hid (m' = (outK f t n ph k).length) ∧ m' ≤ c' ∧ Hid (RowStr w2 b' off' m' (nmF (outK f t n ph k))) ∧ Hid (RowB w2 g n (inD f t n ph k)) ∧ Hid (again = true → ph = false ∧ m' ≠ 0) ∧ Hid (Below w1.heap.size w1 w2)) (fun _ _ i _ => n - (intOf i).toNat)
        case atStart => exact ⟨0, false, b', off', m, c', by omega, rfl, rfl, rfl, HM.out, hmc, HK.out, HRB.out, (fun h => by cases h), HB.out⟩
        case round =>
          obtain ⟨k, again, b2, off2, m2, c2, hk, rfl, rfl, rfl, HM2, hmc2, HK2, HRB2, HAG2, HB2⟩ := hrel
          have k2 := (HB2.out.cell (p := ⟨w.heap.size, 0, none⟩) hz1).trans k1
          by_cases hlt : k < n
          · go_wp2
            clear k2
            go_loopw [5, 7, 9] (fun v ag i w3 => ∃ (j : Nat) (again : Bool) (b' off' m' c' : Nat), j ≤ (f k).linksN ∧ i = .int .i64 j ∧ ag = .bool again ∧ v = .slice (some ⟨b', off', none⟩) m' c' ∧ Hid (m' = (outJ f t n ph k j).length) ∧ m' ≤ c' ∧ Hid (RowStr w3 b' off' m' (nmF (outJ f t n ph k j))) ∧ Hid (RowB w3 g n (inJ f t n ph k j)) ∧ Hid (again = true → ph = false ∧ m' ≠ 0) ∧ Hid (Below w1.heap.size w1 w3)) (fun _ _ i _ => (f k).linksN - (intOf i).toNat)
            case atStart => exact ⟨0, again, b2, off2, m2, c2, by omega, rfl, rfl, rfl, by show m2 = _; rw [← outJ_zero]; exact HM2.out, hmc2, by show RowStr _ _ _ _ _; rw [← outJ_zero]; exact HK2.out, HRB2.out.congr fun x _ => inJ_zero x, HAG2.out, HB2.out⟩
            case round =>
              obtain ⟨j, again, b3, off3, m3, c3, hj, rfl, rfl, rfl, HM3, hmc3, HK3, HRB3, HAG3, HB3⟩ := hrel
              have k3 := (HB3.out.cell (p := ⟨w.heap.size, 0, none⟩) hz1).trans k1
              have DB := hide (B1.out.trans (HB3.out.mono B1.out.size))
              obtain ⟨p0, p1, p2, p3, ⟨a0, cap0, p4, q4⟩, ⟨a1, cap1, p5, q5⟩⟩ := (HR.out.below DB.out (Nat.le_refl _)).2 k hlt
              clear q4 p4 p1 p2 p3
              have hlk := HLK.out k hlt
              by_cases hjl : j < (f k).linksN
              · obtain ⟨b4, off4, rfl, hr4⟩ := q5.resolve_left (by omega)
                obtain ⟨r0, r1, r2, r3⟩ := hr4.2 j hjl
                obtain ⟨l, hl⟩ : ∃ l, (f k).links j = l := ⟨_, rfl⟩
                rw [hl] at r0 r1 r2 r3
                obtain ⟨nm, ask, hs, at_⟩ := l
                dsimp only at r0 r1 r2 r3
                have HL := hide hl
                clear hr4 hl
                have gl := HRB3.out.lt
                have hm3 : (m3 : Int) ≤ 1048576 := by
                  have h1 := HM3.out
                  have h2 : (outJ f t n ph k j).length ≤ n + 1 := by
                    unfold outJ
                    have := depL_len f t n
                    have := depL_len f t k
                    split
                    · omega
                    · split
                      · have := lput_len (depL f t k) (f k).name.toList
                        omega
                      · omega
                  omega
                have D4 := hide ((Below.refl wr.heap.size wr).alloc (Nat.le_refl _) (.cells #[.string nm, .bool ask, .bool hs, .int .i64 at_] 60))
                have C4 := hide (HB3.out.alloc HB3.out.size (.cells #[.string nm, .bool ask, .bool hs, .int .i64 at_] 60))
                have R4 := hide (HRB3.out.below D4.out (Nat.le_refl _))
                have S4 := hide (HK3.out.below D4.out (Nat.le_refl _))
                have ck := R4.out.cell hlt
                rw [inJ_here] at ck
                cases hc : cV f t n ph k j with
                | true =>
                  rw [hc] at ck
                  have HC := hide (cV_stay hc)
                  have HI := hide (inJ_same (f := f) (t := t) (n := n) (ph := ph) (k := k) (j := j) (by rw [(cV_stay hc).1, hc]))
                  clear hc
                  go_wp2
                  exact ⟨⟨j + 1, again, b3, off3, m3, c3, by omega, by go_num, rfl, rfl, by rw [HC.out.2]; exact HM3.out, hmc3, by rw [HC.out.2]; exact S4.out, R4.out.congr fun x _ => HI.out x, HAG3.out, C4.out⟩, by simp [intOf]; omega⟩
                | false =>
                  rw [hc] at ck
                  have zk := R4.out.frozen k
                  have N5 := hide ((Below.refl _ (wr.setCell ⟨g, k, none⟩ (.bool true))).alloc (Nat.le_refl _) (.cells #[.string nm, .bool ask, .bool hs, .int .i64 at_] 60))
                  have R5 := hide ((HRB3.out.set k true).below N5.out (Nat.le_refl _))
                  have S5 := hide ((HK3.out.bools HRB3.out ⟨g, k, none⟩ rfl (.bool true)).below N5.out (Nat.le_refl _))
                  have hgw : w1.heap.size ≤ g := Nat.le_of_eq HG.out.symm
                  have C5 := hide ((HB3.out.setCell (p := ⟨g, k, none⟩) hgw (.bool true)).alloc (by have := HB3.out.size; simpa using this) (.cells #[.string nm, .bool ask, .bool hs, .int .i64 at_] 60))
                  clear N5
                  cases he : (nm.toList == t.toList) with
                  | true =>
                    have hC : depC (depIn f t n) t ((f k).links j) = true := by rw [HL.out]; simp only [depC, he, Bool.true_or]
                    have HP := hide (cV_put hlt hjl (HA2.out k hlt) hc hC)
                    have HI := hide (inJ_set (f := f) (t := t) (n := n) (ph := ph) (k := k) (j := j) (cV_put hlt hjl (HA2.out k hlt) hc hC).2.1)
                    have q0 := (C5.out.cell (p := ⟨w.heap.size, 0, none⟩) hz1).trans k1
                    have q1 := ((B1.out.trans (C5.out.mono B1.out.size)).cell (p := ⟨b, off + k * 6, none⟩) HR.out.1).trans (HR.out.2 k hlt).1
                    clear hc hC
                    go_wp2_with fail
                    generalize (wr.setCell ⟨g, k, none⟩ (.bool true)).alloc (.cells #[.string nm, .bool ask, .bool hs, .int .i64 at_] 60) = W5 at R5 S5 C5 q0 q1 ⊢
                    refine (l5Put_any b3 off3 m3 c3 (outJ f t n ph k j) (f k).name _ HM3.out hm3 (by omega) S5.out).mono ?_
                    rintro e w6 ⟨b6, off6, m6, c6, rfl, hm6, hc6, hr6, hB⟩
                    rw [HP.out.2.2.1, ← HP.out.2.2.2] at hm6 hr6
                    have M6 := hide hm6
                    have S6 := hide hr6
                    have C6 := hide (C5.out.trans (hB.mono C5.out.size))
                    have R6 := hide (R5.out.below hB (Nat.le_refl _))
                    clear hm6 hr6 hB q0 q1
                    go_wp2
                    exact ⟨⟨j + 1, true, b6, off6, m6, c6, by omega, by go_num, rfl, rfl, M6.out, by omega, S6.out, R6.out.congr fun x _ => HI.out x, fun _ => ⟨HP.out.1, by have h1 := M6.out; rw [HP.out.2.2.2] at h1; have h2 := lput_ne (depL f t k) (f k).name.toList; omega⟩, C6.out⟩, by simp [intOf]; omega⟩
                  | false =>
                    cases ask with
                    | false =>
                      have hC : depC (depIn f t n) t ((f k).links j) = false := by rw [HL.out]; simp only [depC, he, Bool.false_and, Bool.or_false]
                      clear R5 S5 C5
                      have HC := hide (cV_no hc hC)
                      have HI := hide (inJ_same (f := f) (t := t) (n := n) (ph := ph) (k := k) (j := j) (by rw [(cV_no hc hC).1, hc]))
                      clear hc hC
                      go_wp2
                      exact ⟨⟨j + 1, again, b3, off3, m3, c3, by omega, by go_num, rfl, rfl, by rw [HC.out.2]; exact HM3.out, hmc3, by rw [HC.out.2]; exact S4.out, R4.out.congr fun x _ => HI.out x, HAG3.out, C4.out⟩, by simp [intOf]; omega⟩
                    | true =>
                      obtain ⟨hat1, hat2, -⟩ := HA.out k hlt j hjl (by rw [HL.out])
                      rw [HL.out] at hat1 hat2
                      dsimp only at hat1 hat2
                      obtain ⟨p, rfl⟩ := Int.eq_ofNat_of_zero_le hat1
                      have hpk : p < k := by omega
                      have hpn : (p : Int) < n := by omega
                      have cp := R4.out.cell (show p < n by omega)
                      rw [inJ_at hpk] at cp
                      cases hd : depIn f t n p with
                      | true =>
                        have hC : depC (depIn f t n) t ((f k).links j) = true := by rw [HL.out]; simp only [depC, he, Int.toNat_natCast, hd, Bool.and_true, Bool.or_true]
                        rw [hd] at cp
                        have HP := hide (cV_put hlt hjl (HA2.out k hlt) hc hC)
                        have HI := hide (inJ_set (f := f) (t := t) (n := n) (ph := ph) (k := k) (j := j) (cV_put hlt hjl (HA2.out k hlt) hc hC).2.1)
                        have q0 := (C5.out.cell (p := ⟨w.heap.size, 0, none⟩) hz1).trans k1
                        have q1 := ((B1.out.trans (C5.out.mono B1.out.size)).cell (p := ⟨b, off + k * 6, none⟩) HR.out.1).trans (HR.out.2 k hlt).1
                        clear hc hC
                        go_wp2_with fail
                        generalize (wr.setCell ⟨g, k, none⟩ (.bool true)).alloc (.cells #[.string nm, .bool true, .bool hs, .int .i64 (p : Int)] 60) = W5 at R5 S5 C5 q0 q1 ⊢
                        refine (l5Put_any b3 off3 m3 c3 (outJ f t n ph k j) (f k).name _ HM3.out hm3 (by omega) S5.out).mono ?_
                        rintro e w6 ⟨b6, off6, m6, c6, rfl, hm6, hc6, hr6, hB⟩
                        rw [HP.out.2.2.1, ← HP.out.2.2.2] at hm6 hr6
                        have M6 := hide hm6
                        have S6 := hide hr6
                        have C6 := hide (C5.out.trans (hB.mono C5.out.size))
                        have R6 := hide (R5.out.below hB (Nat.le_refl _))
                        clear hm6 hr6 hB q0 q1
                        go_wp2
                        exact ⟨⟨j + 1, true, b6, off6, m6, c6, by omega, by go_num, rfl, rfl, M6.out, by omega, S6.out, R6.out.congr fun x _ => HI.out x, fun _ => ⟨HP.out.1, by have h1 := M6.out; rw [HP.out.2.2.2] at h1; have h2 := lput_ne (depL f t k) (f k).name.toList; omega⟩, C6.out⟩, by simp [intOf]; omega⟩
                      | false =>
                        have hC : depC (depIn f t n) t ((f k).links j) = false := by rw [HL.out]; simp only [depC, he, Int.toNat_natCast, hd, Bool.and_false, Bool.or_false]
                        rw [hd] at cp
                        clear R5 S5 C5
                        have HC := hide (cV_no hc hC)
                        have HI := hide (inJ_same (f := f) (t := t) (n := n) (ph := ph) (k := k) (j := j) (by rw [(cV_no hc hC).1, hc]))
                        clear hc hC
                        go_wp2
                        exact ⟨⟨j + 1, again, b3, off3, m3, c3, by omega, by go_num, rfl, rfl, by rw [HC.out.2]; exact HM3.out, hmc3, by rw [HC.out.2]; exact S4.out, R4.out.congr fun x _ => HI.out x, HAG3.out, C4.out⟩, by simp [intOf]; omega⟩
              · obtain rfl : j = (f k).linksN := by omega
                have HI := hide (inJ_end (f := f) (t := t) (n := n) (ph := ph) hlt (HA2.out k hlt))
                have HJ := hide (outJ_end (f := f) (t := t) (n := n) (ph := ph) hlt (HA2.out k hlt))
                go_wp2
                exact ⟨⟨k + 1, again, b3, off3, m3, c3, by omega, by go_num, rfl, rfl, by rw [← HJ.out]; exact HM3.out, hmc3, by rw [← HJ.out]; exact HK3.out, HRB3.out.congr fun x _ => HI.out x, HAG3.out, HB3.out⟩, by simp [intOf]; omega⟩
          · obtain rfl : k = n := by omega
            go_wp2
            refine ⟨⟨true, again, b2, off2, m2, c2, rfl, rfl, ?_, hmc2, ?_, ?_, (fun h => by cases h), fun _ h => (HAG2.out h).2, HB2.out⟩, ?_⟩
            · have := HM2.out
              cases ph <;> exact this
            · have := HK2.out
              cases ph <;> exact this
            · exact HRB2.out.congr fun x hx => by simp [inD, hx]
            · have := HPV.out
              exact passM_lt rfl rfl fun h => ⟨by have h1 := (HAG2.out h).1; subst h1; have := HM.out; simpa [outK, depL] using this, (HAG2.out h).2⟩

end Go.Proofs.YtkgddbcjmejfaaaDoor.Vp
