/-
  spec: Depends: what stands at each step.
-/
import Derived.Test.YtggchgpphhhleaaDoorZNmSpec
import Derived.Test.YtggchgpphhhleaaDoorZDePure
namespace Go.Proofs.YtggchgpphhhleaaDoor.Vp
open Go.RowKit Go.Sort

theorem infoBool2 : (Tryd.prog.info? 4).map (fun i => (i.zero, i.size, i.bytes)) = some (some (.bool false), 1, 1) := by kernel_rfl
/-- a row of bools. -/
def RowB (w : World) (g n : Nat) (D : Nat → Bool) : Prop := w.rowIs g 4 n (fun j => .bool (D j))
theorem mkBool2 (n : Nat) (hn : n ≤ 1048576) (w : World) : (Instr.makeSlice 62 (.int .i64 (n : Int)) (.int .i64 (n : Int))).run Tryd.prog w = .ok (.slice (some ⟨w.heap.size, 0, none⟩) n n) (w.alloc (.cells (madeCells #[.bool false] n) 4)) :=
  run_make_row' 62 4 (.bool false) 1 Tryd.underlying62 infoBool2 rfl .i64 .i64 n (by omega) (by omega) w
theorem RowB.cell {w : World} {g n : Nat} {D : Nat → Bool} (h : RowB w g n D) {i : Nat} (hi : i < n) : w.cell? ⟨g, i, none⟩ = some (.bool (D i)) := World.rowIs.cell h hi
theorem RowB.frozen {w : World} {g n : Nat} {D : Nat → Bool} (h : RowB w g n D) (i : Nat) : w.frozen? ⟨g, i, none⟩ = false := World.rowIs.frozen h i
theorem RowB.lt {w : World} {g n : Nat} {D : Nat → Bool} (h : RowB w g n D) : g < w.heap.size := World.rowIs.lt h
theorem RowB.below {w w' : World} {g n B : Nat} {D : Nat → Bool} (h : RowB w g n D) (hb : Below B w w') (hB : w.heap.size ≤ B) : RowB w' g n D := World.rowIs.of_block h (hb.block g (Nat.lt_of_lt_of_le h.lt hB))
theorem RowB.set {w : World} {g n : Nat} {D : Nat → Bool} (h : RowB w g n D) (i : Nat) (v : Bool) : RowB (w.setCell ⟨g, i, none⟩ (.bool v)) g n (fun j => if j = i then v else D j) :=
  (World.rowIs.set h i (.bool v)).congr fun j _ => by by_cases e : j = i <;> simp [e]
theorem RowB.congr {w : World} {g n : Nat} {D E : Nat → Bool} (h : RowB w g n D) (e : ∀ j, j < n → D j = E j) : RowB w g n E := World.rowIs.congr h fun j hj => by rw [e j hj]
/-- a row of texts is not touched by a store into a row of bools. -/
theorem RowStr.bools {w : World} {g n b off m : Nat} {D : Nat → Bool} {F : Nat → ByteArray} (h : RowStr w b off m F) (hg : RowB w g n D) (p : Addr) (hp : p.block = g) (v : Value) : RowStr (w.setCell p v) b off m F := by
  refine ⟨by simpa using h.1, fun i hi => ?_⟩
  have hc := h.2 i hi
  by_cases e : b = g
  · subst e
    obtain ⟨c, hb, hn, hcs⟩ := hg
    have h2 : w.cell? ⟨b, off + i, none⟩ = c[off + i]? := by simp [World.cell?, hb]
    rw [hc] at h2
    rcases Nat.lt_or_ge (off + i) n with h3 | h3
    · rw [hcs _ h3] at h2
      simp at h2
    · rw [Array.getElem?_eq_none (by omega)] at h2
      simp at h2
  · exact (World.cell?_of_block (w := w) (a := ⟨b, off + i, none⟩) (Below.heap_setCell w p v b (fun e2 => e (e2.trans hp)))).trans hc

def passM : Value → Value → Nat
  | .slice _ m _, .bool true => if m = 0 then 2 else 1
  | _, _ => 0
theorem lput_ne (l : List (List UInt8)) (x : List UInt8) : (lput l x).length ≠ 0 := by
  have h := (mem_lput l x x).2 (.inr rfl)
  intro e
  rw [List.length_eq_zero_iff] at e
  rw [e] at h
  simp at h

section
variable (f : Nat → Deed) (t : ByteArray) (n : Nat)
/-- what stands in the row of bools behind the first k deeds; ph: nothing is left to be found. -/
def inD (ph : Bool) (k : Nat) (x : Nat) : Bool := depIn f t n x && (ph || decide (x < k))
/-- .. behind j links of deed k. -/
def cV (ph : Bool) (k j : Nat) : Bool := if ph = true then depIn f t n k else depLk (depIn f t n) t (f k) j
def inJ (ph : Bool) (k j : Nat) (x : Nat) : Bool := if x = k then cV f t n ph k j else inD f t n ph k x
def outK (ph : Bool) (k : Nat) : List (List UInt8) := if ph = true then depL f t n else depL f t k
def outJ (ph : Bool) (k j : Nat) : List (List UInt8) := if ph = true then depL f t n else if depLk (depIn f t n) t (f k) j = true then lput (depL f t k) (f k).name.toList else depL f t k
end
variable {f : Nat → Deed} {t : ByteArray} {n : Nat}
theorem inJ_zero {ph : Bool} {k : Nat} : ∀ x, inD f t n ph k x = inJ f t n ph k 0 x := by
  intro x
  unfold inJ
  split
  · rename_i e
    subst e
    cases ph <;> simp [inD, cV, depLk]
  · rfl
theorem outJ_zero {ph : Bool} {k : Nat} : outK f t n ph k = outJ f t n ph k 0 := by cases ph <;> simp [outK, outJ, depLk]
theorem depLk_end {k : Nat} (hk : k < n) (ha : ∀ j, j < (f k).linksN → ((f k).links j).ask = true → ((f k).links j).at_.toNat < k) : depLk (depIn f t n) t (f k) (f k).linksN = depIn f t n k := by
  rw [depIn_stay (show k < k + 1 by omega) (show k + 1 ≤ n by omega), depIn_self]
  exact depLk_congr ha fun i hi => depIn_stay hi (by omega)
theorem inJ_end {ph : Bool} {k : Nat} (hk : k < n) (ha : ∀ j, j < (f k).linksN → ((f k).links j).ask = true → ((f k).links j).at_.toNat < k) : ∀ x, inJ f t n ph k (f k).linksN x = inD f t n ph (k + 1) x := by
  intro x
  have hc : cV f t n ph k (f k).linksN = depIn f t n k := by
    unfold cV
    split
    · rfl
    · exact depLk_end hk ha
  unfold inJ inD
  split
  · rename_i e
    subst e
    rw [hc]
    simp
  · have : decide (x < k) = decide (x < k + 1) := by simp only [decide_eq_decide]; omega
    rw [this]
theorem outJ_end {ph : Bool} {k : Nat} (hk : k < n) (ha : ∀ j, j < (f k).linksN → ((f k).links j).ask = true → ((f k).links j).at_.toNat < k) : outJ f t n ph k (f k).linksN = outK f t n ph (k + 1) := by
  unfold outJ outK
  rw [depLk_end hk ha, depL, depIn_stay (show k < k + 1 by omega) (show k + 1 ≤ n by omega)]
theorem cV_stay {ph : Bool} {k j : Nat} (h : cV f t n ph k j = true) : cV f t n ph k (j + 1) = true ∧ outJ f t n ph k (j + 1) = outJ f t n ph k j := by
  unfold cV at h ⊢
  unfold outJ
  cases ph with
  | true => exact ⟨by simpa using h, rfl⟩
  | false =>
    simp only [Bool.false_eq_true, if_false] at h ⊢
    have h2 : depLk (depIn f t n) t (f k) (j + 1) = true := by rw [depLk, h, Bool.true_or]
    rw [h2, h]
    simp
theorem cV_no {ph : Bool} {k j : Nat} (h : cV f t n ph k j = false) (hc : depC (depIn f t n) t ((f k).links j) = false) : cV f t n ph k (j + 1) = false ∧ outJ f t n ph k (j + 1) = outJ f t n ph k j := by
  unfold cV at h ⊢
  unfold outJ
  cases ph with
  | true => exact ⟨by simpa using h, rfl⟩
  | false =>
    simp only [Bool.false_eq_true, if_false] at h ⊢
    have h2 : depLk (depIn f t n) t (f k) (j + 1) = false := by rw [depLk, h, hc]; rfl
    rw [h2, h]
    simp
theorem cV_put {ph : Bool} {k j : Nat} (hk : k < n) (hj : j < (f k).linksN) (ha : ∀ j, j < (f k).linksN → ((f k).links j).ask = true → ((f k).links j).at_.toNat < k) (h : cV f t n ph k j = false) (hc : depC (depIn f t n) t ((f k).links j) = true) :
    ph = false ∧ cV f t n ph k (j + 1) = true ∧ outJ f t n ph k j = depL f t k ∧ outJ f t n ph k (j + 1) = lput (depL f t k) (f k).name.toList := by
  have hph : ph = false := by
    cases ph with
    | false => rfl
    | true =>
      have h1 : depIn f t n k = false := by simpa [cV] using h
      rw [← depLk_end hk ha] at h1
      have := depLk_none h1 j hj
      rw [hc] at this
      simp at this
  subst hph
  have h1 : depLk (depIn f t n) t (f k) j = false := by simpa [cV] using h
  have h2 : depLk (depIn f t n) t (f k) (j + 1) = true := by rw [depLk, hc, Bool.or_true]
  exact ⟨rfl, by simp [cV, h2], by simp [outJ, h1], by simp [outJ, h2]⟩
theorem inJ_same {ph : Bool} {k j : Nat} (h : cV f t n ph k (j + 1) = cV f t n ph k j) : ∀ x, inJ f t n ph k j x = inJ f t n ph k (j + 1) x := by
  intro x
  unfold inJ
  split
  · exact h.symm
  · rfl
theorem inJ_set {ph : Bool} {k j : Nat} (h : cV f t n ph k (j + 1) = true) : ∀ x, (if x = k then true else inJ f t n ph k j x) = inJ f t n ph k (j + 1) x := by
  intro x
  unfold inJ
  split
  · exact h.symm
  · rename_i e
    rfl
theorem inJ_at {ph : Bool} {k j p : Nat} (hp : p < k) : inJ f t n ph k j p = depIn f t n p := by
  unfold inJ inD
  rw [if_neg (by omega)]
  simp [hp]
theorem inJ_here {ph : Bool} {k j : Nat} : inJ f t n ph k j k = cV f t n ph k j := by simp [inJ]

theorem passM_lt {v v' : Value} {p : Option Addr} {m c : Nat} {p' : Option Addr} {m' c' : Nat} {again : Bool} (hv : v = .slice p m c) (hv' : v' = .slice p' m' c') (h : again = true → m = 0 ∧ m' ≠ 0) : passM v' (.bool again) < passM v (.bool true) := by
  subst hv hv'
  cases again with
  | false => simp only [passM]; split <;> omega
  | true =>
    obtain ⟨h1, h2⟩ := h rfl
    simp [passM, h1, h2]

end Go.Proofs.YtggchgpphhhleaaDoor.Vp
